import PyProof.Rows.All
import Wide.All
import OpenK.AllK
import Wide.FinOn
import Lean
import PyProof.EqAt
import PyProof.EqKinds
import PyProof.TupleCall
import PyProof.Draws
import PyProof.EnumMake
import PyProof.TupleIter
import PyProof.WalksMore
import PyProof.MinMaxWalk
import PyProof.SeqI3
import KE.KSortTup
import KE.KLam
import KE.KIsAll
import PyProof.Rows.CallKwBuiltin
import PyProof.SumWalk
import PyProof.CompFree
import PyProof.CompUse
import PyProof.ConsumeWalk
import PyProof.NeKinds
import PyProof.Rows.StrJoin2
import PyProof.Rows.SortShell
import PyProof.StrBlock2
import PyProof.StrWalks
import PyProof.FString5
import PyProof.ZipIter
import PyProof.Rows.StrSplitAre
import PyProof.StrLawsTight
import PyProof.SumWalkG
import PyProof.Conv_int_bool
import KE.KRevIter
import PyProof.AutoSeq1
import PyProof.Rows.SortWalk
import PyProof.Rows.SeqMore
import PyProof.DictWalks
import KE.KDictSum
import PySem.Challenge.RW_pagepart_k72_whole_no_way_puts_more
set_option Elab.async false
set_option linter.all false
set_option maxRecDepth 100000
namespace L2
open PySem PySem.Spec PyProof.Rows
abbrev Key := Sum Int Str
def keyIs : Key → Value → Bool
  | .inl k, v => Value.isInt k v
  | .inr x, v => Value.isStrOf x v
def keyH (w : World) : Key → Int
  | .inl k => hashInt k
  | .inr x => hashStr w x
theorem keyIs_shape : ∀ {k : Key} {v : Value}, keyIs k v = true → (∃ i t, k = Sum.inl i ∧ v = Value.int i t) ∨ (∃ x t, k = Sum.inr x ∧ v = Value.str x t)
  | .inl i, v, h => by
    obtain ⟨t, e⟩ := Value.isInt_shape (k := i) (v := v) h
    exact .inl ⟨i, t, rfl, e⟩
  | .inr x, v, h => by
    obtain ⟨t, e⟩ := Value.isStrOf_shape (x := x) (v := v) h
    exact .inr ⟨x, t, rfl, e⟩
theorem keyIs_int (i : Int) (t : Tok) : keyIs (.inl i) (.int i t) = true := by simp [keyIs, Value.isInt]
theorem keyIs_str (x : Str) (t : Tok) : keyIs (.inr x) (.str x t) = true := by simp [keyIs, Value.isStrOf]
theorem key_ll (a b : Int) : decide ((Sum.inl a : Key) = Sum.inl b) = (a == b) := by
  by_cases e : a = b
  · subst e; simp
  · have h : ¬ (Sum.inl a : Key) = Sum.inl b := fun q => e (Sum.inl.inj q)
    rw [decide_eq_false h]
    exact (beq_eq_false_iff_ne.mpr e).symm
theorem key_rr (a b : Str) : decide ((Sum.inr a : Key) = Sum.inr b) = decide (a = b) := by
  by_cases e : a = b
  · subst e; simp
  · have h : ¬ (Sum.inr a : Key) = Sum.inr b := fun q => e (Sum.inr.inj q)
    rw [decide_eq_false h, decide_eq_false e]
theorem key_lr (a : Int) (b : Str) : decide ((Sum.inl a : Key) = Sum.inr b) = false := decide_eq_false (fun q => nomatch q)
theorem key_rl (a : Str) (b : Int) : decide ((Sum.inr a : Key) = Sum.inl b) = false := decide_eq_false (fun q => nomatch q)
def mixKind (prog : Program) (w : World) : PySem.KeyKind prog w Key where
  is := keyIs
  hash := keyH w
  inj := fun v a b ha hb => by
    rcases keyIs_shape ha with ⟨i, t, rfl, rfl⟩ | ⟨x, t, rfl, rfl⟩
    · rcases keyIs_shape hb with ⟨j, u, rfl, e⟩ | ⟨y, u, rfl, e⟩
      · injection e with e1 _; rw [e1]
      · exact nomatch e
    · rcases keyIs_shape hb with ⟨j, u, rfl, e⟩ | ⟨y, u, rfl, e⟩
      · exact nomatch e
      · injection e with e1 _; rw [e1]
  byValue := fun k v h => by
    rcases keyIs_shape h with ⟨i, t, rfl, rfl⟩ | ⟨x, t, rfl, rfl⟩ <;> rfl
  pyHash := fun hv h => by
    rcases keyIs_shape hv with ⟨i, t, rfl, rfl⟩ | ⟨x, t, rfl, rfl⟩
    · exact wpAny_pyHash_int h
    · exact wpAny_pyHash_str h
  eqBool := fun hu hv h => by
    rcases keyIs_shape hu with ⟨i, t, rfl, rfl⟩ | ⟨x, t, rfl, rfl⟩
    · rcases keyIs_shape hv with ⟨j, u, rfl, rfl⟩ | ⟨y, u, rfl, rfl⟩
      · rw [key_ll] at h; exact wpAny_eqBool_int h
      · rw [key_lr] at h; exact SeqAt.EqAt.int_str i t y u _ _ _ _ h
    · rcases keyIs_shape hv with ⟨j, u, rfl, rfl⟩ | ⟨y, u, rfl, rfl⟩
      · rw [key_rl] at h; exact SeqAt.EqAt.str_int x t j u _ _ _ _ h
      · rw [key_rr] at h; exact wpAny_eqBool_str h
  «strs» := fun k x t v h => by
    rcases keyIs_shape h with ⟨i, u, rfl, e⟩ | ⟨y, u, rfl, e⟩
    · exact nomatch e
    · injection e with e1 _
      subst e1
      cases v <;> rfl
theorem mixKind_int (prog : Program) (w : World) (i : Int) (t : Tok) : (mixKind prog w).is (.inl i) (.int i t) = true := keyIs_int i t
theorem mixKind_str (prog : Program) (w : World) (x : Str) (t : Tok) : (mixKind prog w).is (.inr x) (.str x t) = true := keyIs_str x t
end L2
namespace L2
open PySem PySem.Spec PyProof.Rows
inductive V where
  | non | bl (b : Bool) | int (i : Int) | str (x : Str) | byt (b : Array UInt8) | flt (b : UInt64) | ref (a : Addr) | ty (n : String)
  deriving DecidableEq
def RelV : V → Value → Prop
  | .non, u => u = Value.none
  | .bl b, u => u = Value.bool b
  | .int i, u => ∃ t, u = Value.int i t
  | .str x, u => ∃ t, u = Value.str x t
  | .byt b, u => ∃ t, u = Value.bytes b t
  | .flt b, u => ∃ t, u = Value.float b t
  | .ref a, u => u = Value.ref a
  | .ty n, u => u = Value.type n
abbrev Vals : List V → List Value → Prop := Paired RelV
theorem Vals.length {xs : List V} {us : List Value} (r : Vals xs us) : xs.length = us.length := Paired.length r
theorem Vals.get : ∀ {xs : List V} {us : List Value} {i : Nat} {x : V}, Vals xs us → xs[i]? = some x → ∃ u, us[i]? = some u ∧ RelV x u
  | _, _, _, _, .nil, e => by simp at e
  | _, _, 0, _, .cons r _, e => by simp at e; subst e; exact ⟨_, rfl, r⟩
  | _, _, i + 1, x, .cons _ t, e => by
    obtain ⟨u, h1, h2⟩ := Vals.get (i := i) (x := x) t (by simpa using e)
    exact ⟨u, by simpa using h1, h2⟩
theorem Vals.set {x : V} {u : Value} (r : RelV x u) : ∀ {xs : List V} {us : List Value} (i : Nat), Vals xs us → Vals (xs.set i x) (us.set i u)
  | _, _, _, .nil => .nil
  | _, _, 0, .cons _ t => .cons r t
  | _, _, i + 1, .cons q t => .cons q (Vals.set r i t)
theorem Vals.append : ∀ {xs ys : List V} {us ws : List Value}, Vals xs us → Vals ys ws → Vals (xs ++ ys) (us ++ ws)
  | _, _, _, _, .nil, s => s
  | _, _, _, _, .cons r t, s => .cons r (Vals.append t s)
theorem Vals.take : ∀ {xs : List V} {us : List Value} (n : Nat), Vals xs us → Vals (xs.take n) (us.take n)
  | _, _, 0, _ => .nil
  | _, _, _ + 1, .nil => .nil
  | _, _, n + 1, .cons r t => .cons r (Vals.take n t)
theorem Vals.drop : ∀ {xs : List V} {us : List Value} (n : Nat), Vals xs us → Vals (xs.drop n) (us.drop n)
  | _, _, 0, r => r
  | _, _, _ + 1, .nil => .nil
  | _, _, n + 1, .cons _ t => Vals.drop n t
def RelO : Option V → Option Value → Prop
  | some v, some u => RelV v u
  | none, none => True
  | _, _ => False
def KV {κ : Type} : List (κ × V) → List (κ × Value) → Prop := Paired fun (p : κ × V) (q : κ × Value) => p.1 = q.1 ∧ RelV p.2 q.2
def kV : Key → V
  | .inl i => .int i
  | .inr x => .str x
inductive HO where
  /-- a list -/
  | lst (xs : List V)
  /-- a tuple (never changes) -/
  | tup (xs : List V)
  /-- a dict whose keys are ints and texts; one whose keys are tuples of ints and texts (the empty one is both) -/
  | dK (kvs : List (Key × V)) | dT (kvs : List (List Key × V))
  /-- a set of ints: its members, its size -/
  | set (S : Int → Bool) (n : Nat)
  /-- an instance of the class at C, its dict at dx, its attributes -/
  | ins (C dx : Addr) (fs : List (Str × V))
  /-- the dict of the instance at x -/
  | own (x : Addr)
  /-- the dict of an exception -/
  | xd (fs : List (Str × V))
  /-- a bound method, f of x -/
  | met (f x : Addr)
  /-- a range object lo, lo + 1, .. below hi -/
  | rng (lo hi : Int)
  /-- a thing that is known to the object (the script; a dict while a loop walks it): read, never written while it is so -/
  | frz (o : Obj) (u : HO)
  /-- a code object's table -/
  | tbl (ps : Array Value)
  /-- any other thing, by what is true of its one object (a def of one's own: SetO a S n := HO.ext fun h => ..) -/
  | ext (φ : Heap → Prop)
abbrev Hp := Addr → Option HO
def upd (H : Hp) (a : Addr) (o : HO) : Hp := fun b => if b = a then some o else H b
theorem upd_same {H : Hp} {a : Addr} {o : HO} : upd H a o a = some o := by unfold upd; rw [if_pos rfl]
theorem upd_ne {H : Hp} {a b : Addr} {o : HO} (h : b ≠ a) : upd H a o b = H b := by unfold upd; rw [if_neg h]
theorem ne_of {H : Hp} {a b : Addr} {o u : HO} (h : H a = some o) (h' : H b = some u) (d : o ≠ u) : a ≠ b := by
  intro e; subst e; rw [h] at h'; exact d (Option.some.inj h')
theorem ne_of_none {H : Hp} {a b : Addr} {o : HO} (h : H a = some o) (h' : H b = none) : a ≠ b := by
  intro e; subst e; rw [h] at h'; cases h'
section
variable (P : Program) (w : World)
def ObjOk (H : Hp) (h : Heap) (a : Addr) : HO → Prop
  | .lst xs => xs.length ≤ sizeLine ∧ ∃ (its : List Value) (n : Nat), Vals xs its ∧ h.get? a = some { cls := .type "list", data := .seq its.toArray n }
  | .tup xs => xs.length ≤ sizeLine ∧ ∃ its : List Value, Vals xs its ∧ IsTup h a its.toArray
  | .dK kvs => kvs.length ≤ sizeLine ∧ (a == sysModules) = false ∧ ∃ vs, KV kvs vs ∧ h.DictOf (mixKind P w) a vs
  | .dT kvs => kvs.length ≤ sizeLine ∧ (a == sysModules) = false ∧ ∃ xs : List (List Key × Addr × Value),
      Paired (fun (p : List Key × V) (q : List Key × Addr × Value) => p.1 = q.1 ∧ H q.2.1 = some (.tup (p.1.map kV)) ∧ RelV p.2 q.2.2) kvs xs ∧
      ∃ o es ep, h.get? a = some o ∧ o.ExactDict ∧ o.data = .dict es ep ∧ es.toList = xs.map (entryOfKey (tupleKind (mixKind P w))) ∧ (xs.map (·.1)).Nodup
  | .set S n => h.SetOf (intKind P w) a S n
  | .ins C dx fs => H dx = some (.own a) ∧ fs.length ≤ 1000 ∧ dx ≠ a ∧ h.get? a = some (PySem.W.instObj C dx) ∧
      ∃ mA, h.Ns1 dx mA ∧ (∀ f, RelO (fs.lookup f) (mA f)) ∧ PySem.Within mA (fs.map (·.1))
  | .own _ => ∃ o, h.get? a = some o
  | .xd fs => ∃ mA, h.Ns1 a mA ∧ ∀ f, RelO (fs.lookup f) (mA f)
  | .rng lo hi => ∃ t u v, h.get? a = some { cls := .type "range", data := .fields #[.int lo t, .int hi u, .int 1 v] }
  | .frz o u => h.get? a = some o ∧ ObjOk H h a u
  | .tbl ps => h.get? a = some { cls := .none, data := .fields ps }
  | .met f x => h.get? a = some (PySem.W.methodObj (.ref f) (.ref x))
  | .ext φ => φ h ∧ (∃ o, h.get? a = some o) ∧ ∀ h1 h2 : Heap, φ h1 → (∀ o, h1.get? a = some o → h2.get? a = some o) → φ h2
def HOk (H : Hp) (h : Heap) : Prop := ∀ a o, H a = some o → ObjOk P w H h a o
end
section
variable {P : Program} {w : World} {H H' : Hp} {h h' : Heap} {a : Addr} {o : HO}
theorem ObjOk.lt (x : ObjOk P w H h a o) : a < h.objs.size := by
  cases o with
  | lst xs => obtain ⟨_, _, _, _, e⟩ := x; exact Heap.lt_size e
  | tup xs => obtain ⟨_, _, _, p⟩ := x; exact p.lt
  | dK kvs => obtain ⟨_, _, _, _, o, _, _, e, _⟩ := x; exact Heap.lt_size e
  | dT kvs => obtain ⟨_, _, _, _, o, _, _, e, _⟩ := x; exact Heap.lt_size e
  | set S n => obtain ⟨o, _, _, _, e, _⟩ := x; exact Heap.lt_size e
  | ins C dx fs => obtain ⟨_, _, _, e, _⟩ := x; exact Heap.lt_size e
  | own y => obtain ⟨_, e⟩ := x; exact Heap.lt_size e
  | xd fs => obtain ⟨_, ⟨_, _, _, e, _⟩, _⟩ := x; exact Heap.lt_size e
  | rng lo hi => obtain ⟨_, _, _, e⟩ := x; exact Heap.lt_size e
  | frz ob u => obtain ⟨e, _⟩ := x; exact Heap.lt_size e
  | tbl ps => exact Heap.lt_size (show h.get? a = some _ from x)
  | met f y => exact Heap.lt_size (show h.get? a = some _ from x)
  | ext φ => obtain ⟨_, ⟨_, e⟩, _⟩ := x; exact Heap.lt_size e
theorem Paired.mapP {α β : Type} {F G : α → β → Prop} : ∀ {l₁ : List α} {l₂ : List β}, Paired F l₁ l₂ → (∀ a b, F a b → G a b) → Paired G l₁ l₂
  | _, _, .nil, _ => .nil
  | _, _, .cons r t, f => .cons (f _ _ r) (Paired.mapP t f)
theorem ObjOk.stay (x : ObjOk P w H h a o) (k : ∀ b u, (b = a ∨ H b = some (.own a)) → h.get? b = some u → h'.get? b = some u)
    (ho : ∀ b, H b = some (.own a) → H' b = some (.own a)) (ht : ∀ b xs, H b = some (.tup xs) → H' b = some (.tup xs)) : ObjOk P w H' h' a o := by
  induction o with
  | lst xs => obtain ⟨z, its, n, r, e⟩ := x; exact ⟨z, its, n, r, k _ _ (.inl rfl) e⟩
  | tup xs => obtain ⟨z, its, r, ob, e, c⟩ := x; exact ⟨z, its, r, ob, k _ _ (.inl rfl) e, c⟩
  | dK kvs => obtain ⟨z, y, vs, r, ob, es, ep, e, c⟩ := x; exact ⟨z, y, vs, r, ob, es, ep, k _ _ (.inl rfl) e, c⟩
  | dT kvs =>
    obtain ⟨z, y, xs, r, ob, es, ep, e, c⟩ := x
    exact ⟨z, y, xs, Paired.mapP r fun p q z => ⟨z.1, ht _ _ z.2.1, z.2.2⟩, ob, es, ep, k _ _ (.inl rfl) e, c⟩
  | set S n => obtain ⟨ob, es, ep, t, e, c⟩ := x; exact ⟨ob, es, ep, t, k _ _ (.inl rfl) e, c⟩
  | ins C dx fs =>
    obtain ⟨d, z, ne, e, mA, ⟨od, es, ep, e2, c⟩, r⟩ := x
    exact ⟨ho _ d, z, ne, k _ _ (.inl rfl) e, mA, ⟨od, es, ep, k _ _ (.inr d) e2, c⟩, r⟩
  | own y => obtain ⟨ob, e⟩ := x; exact ⟨ob, k _ _ (.inl rfl) e⟩
  | xd fs => obtain ⟨mA, ⟨od, es, ep, e, c⟩, r⟩ := x; exact ⟨mA, ⟨od, es, ep, k _ _ (.inl rfl) e, c⟩, r⟩
  | rng lo hi => obtain ⟨t, u, v, e⟩ := x; exact ⟨t, u, v, k _ _ (.inl rfl) e⟩
  | frz ob u ih => obtain ⟨e, q⟩ := x; exact ⟨k _ _ (.inl rfl) e, ih q⟩
  | tbl ps =>
    have e : h.get? a = some { cls := .none, data := .fields ps } := x
    show h'.get? a = some { cls := .none, data := .fields ps }
    exact k a _ (.inl rfl) e
  | met f y =>
    have e : h.get? a = some (PySem.W.methodObj (.ref f) (.ref y)) := x
    show h'.get? a = some (PySem.W.methodObj (.ref f) (.ref y))
    exact k a _ (.inl rfl) e
  | ext φ => obtain ⟨p, ⟨o, e⟩, st⟩ := x; exact ⟨st _ _ p fun o q => k _ _ (.inl rfl) q, ⟨o, k _ _ (.inl rfl) e⟩, st⟩
theorem HOk.lt (x : HOk P w H h) (e : H a = some o) : a < h.objs.size := (x a o e).lt
theorem HOk.fresh (x : HOk P w H h) (e : h.objs.size ≤ a) : H a = none := by
  cases q : H a with
  | none => rfl
  | some u => exact absurd (Nat.lt_of_lt_of_le (x.lt q) e) (Nat.lt_irrefl _)
theorem HOk.kept (x : HOk P w H h) (k : ∀ b u, h.get? b = some u → h'.get? b = some u) : HOk P w H h' := fun a o e =>
  (x a o e).stay (fun b u _ q => k b u q) (fun _ q => q) fun _ _ q => q
theorem HOk.laid (x : HOk P w H h) (k : ∀ b u, h.get? b = some u → h'.get? b = some u) (hp : h.objs.size ≤ a) (new : ObjOk P w (upd H a o) h' a o) : HOk P w (upd H a o) h' := fun b u e => by
  have hn := x.fresh hp
  by_cases hb : b = a
  · subst hb; rw [upd_same] at e; cases e; exact new
  · rw [upd_ne hb] at e
    exact (x b u e).stay (fun c v _ q => k c v q) (fun c q => by rw [upd_ne (ne_of_none q hn)]; exact q) fun c xs q => by rw [upd_ne (ne_of_none q hn)]; exact q
end
def Rd (H : Hp) (a : Addr) (u : HO) : Prop := H a = some u ∨ ∃ o, H a = some (.frz o u)
theorem Rd.ok {P : Program} {w : World} {H : Hp} {h : Heap} {a : Addr} {u : HO} (r : Rd H a u) (x : HOk P w H h) : ObjOk P w H h a u := by
  rcases r with r | ⟨o, r⟩
  · exact x a u r
  · obtain ⟨_, q⟩ := x a _ r
    exact q
def Mut : Option HO → Prop
  | some (.lst _) => True
  | some (.dK _) => True
  | some (.dT _) => True
  | some (.set _ _) => True
  | some (.ins _ _ _) => True
  | some (.ext _) => True
  | _ => False
section
variable {P : Program} {w : World} {H : Hp} {h h' : Heap} {x e : Addr} {o' : HO}
theorem HOk.write (ok : HOk P w H h) (mu : Mut (H x)) (he : e = x ∨ H e = some (.own x)) (k : ∀ b u, b ≠ e → h.get? b = some u → h'.get? b = some u) (heo : ∃ u, h'.get? e = some u)
    (new : ObjOk P w (upd H x o') h' x o') : HOk P w (upd H x o') h' := fun b u q => by
  have nown : ∀ c y, H c = some (.own y) → c ≠ x := fun c y r z => by subst z; rw [r] at mu; exact mu
  have ntup : ∀ c xs, H c = some (.tup xs) → c ≠ x := fun c xs r z => by subst z; rw [r] at mu; exact mu
  by_cases hb : b = x
  · subst hb; rw [upd_same] at q; cases q; exact new
  · rw [upd_ne hb] at q
    by_cases hbe : b = e
    · have q' : H b = some (.own x) := by
        rcases he with z | z
        · exact absurd (hbe.trans z) hb
        · rw [hbe]; exact z
      rw [q] at q'; cases q'
      obtain ⟨v, hv⟩ := heo
      exact ⟨v, by rw [hbe]; exact hv⟩
    · refine (ok b u q).stay (fun c v hc r => k c v ?_ r) (fun c r => by rw [upd_ne (nown c b r)]; exact r) fun c xs r => by rw [upd_ne (ntup c xs r)]; exact r
      rcases hc with rfl | hc
      · exact hbe
      · rintro rfl
        rcases he with z | z
        · exact nown c b hc z
        · rw [hc] at z; cases z; exact hb rfl
end
structure Un (fs ex : List Addr) (H H' : Hp) (h h' : Heap) : Prop where
  keep : ∀ b o, h.get? b = some o → H b = none → b ∉ fs → b ∉ ex → h'.get? b = some o
  slot : ∀ b o, h.get? b = some o → H b = none → b ∈ fs → b ∉ ex → ∃ sl, h'.get? b = some { o with slots := sl }
  free : ∀ b o, h.get? b = some o → H b = none → b ∉ ex → H' b = none
  there : ∀ b o, h.get? b = some o → b ∉ ex → ∃ o', h'.get? b = some o'
  tups : ∀ b xs, H b = some (.tup xs) → H' b = some (.tup xs)
  frzs : ∀ b o u, H b = some (.frz o u) → H' b = some (.frz o u)
  tbls : ∀ b ps, H b = some (.tbl ps) → ∃ more, H' b = some (.tbl (ps ++ more))
section
variable {fs fs' ex ex' : List Addr} {H H1 H2 : Hp} {h h1 h2 h' : Heap} {a x e : Addr} {o : HO}
theorem Un.any (u : Un fs ex H H1 h h1) {b : Addr} {ob : Obj} (q : h.get? b = some ob) (n : H b = none) (hx : b ∉ ex) : ∃ sl, h1.get? b = some { ob with slots := sl } := by
  by_cases hb : b ∈ fs
  · exact u.slot b ob q n hb hx
  · exact ⟨ob.slots, u.keep b ob q n hb hx⟩
theorem Un.kept (k : ∀ b u, h.get? b = some u → h'.get? b = some u) : Un fs ex H H h h' :=
  ⟨fun b ob q _ _ _ => k b ob q, fun b ob q _ _ _ => ⟨ob.slots, k b ob q⟩, fun _ _ _ n _ => n, fun b ob q _ => ⟨ob, k b ob q⟩, fun _ _ q => q, fun _ _ _ q => q, fun _ ps q => ⟨#[], by rw [q]; simp⟩⟩
theorem Un.refl : Un fs ex H H h h := Un.kept fun _ _ q => q
theorem Un.laid (k : ∀ b u, h.get? b = some u → h'.get? b = some u) (hp : h.objs.size ≤ a) (hn : H a = none) : Un fs ex H (upd H a o) h h' where
  keep := fun b u q _ _ _ => k b u q
  slot := fun b u q _ _ _ => ⟨u.slots, k b u q⟩
  free := fun b u q n _ => by rw [upd_ne (Nat.ne_of_lt (Nat.lt_of_lt_of_le (Heap.lt_size q) hp))]; exact n
  there := fun b u q _ => ⟨u, k b u q⟩
  tups := fun b xs q => by rw [upd_ne (ne_of_none q hn)]; exact q
  frzs := fun b u xs q => by rw [upd_ne (ne_of_none q hn)]; exact q
  tbls := fun b ps q => ⟨#[], by rw [upd_ne (ne_of_none q hn), q]; simp⟩
theorem Un.write (mu : Mut (H x)) (he : e = x ∨ H e = some (.own x)) (k : ∀ b u, b ≠ e → h.get? b = some u → h'.get? b = some u) (heo : ∃ u, h'.get? e = some u) : Un fs ex H (upd H x o) h h' := by
  have hx : ∀ b, H b = none → b ≠ x := fun b n z => by subst z; rw [n] at mu; exact mu
  have hb : ∀ b, H b = none → b ≠ e := fun b n z => by
    subst z
    rcases he with r | r
    · exact hx b n r
    · rw [n] at r; cases r
  have hm : ∀ b u, H b = some u → ¬ Mut (some u) → b ≠ x := fun b u q nm z => by subst z; rw [q] at mu; exact nm mu
  refine ⟨fun b u q n _ _ => k b u (hb b n) q, fun b u q n _ _ => ⟨u.slots, k b u (hb b n) q⟩, fun b u q n _ => by rw [upd_ne (hx b n)]; exact n, fun b u q _ => ?_,
    fun b xs q => by rw [upd_ne (hm b _ q fun z => z)]; exact q, fun b u xs q => by rw [upd_ne (hm b _ q fun z => z)]; exact q, fun b ps q => ⟨#[], by rw [upd_ne (hm b _ q fun z => z), q]; simp⟩⟩
  by_cases hbe : b = e
  · subst hbe; exact heo
  · exact ⟨u, k b u hbe q⟩
end
def trk (h : Heap) (H : Hp) : List Addr := (List.range h.objs.size).filter fun a => (H a).isSome
def hidT (h : Heap) (H : Hp) : Heap := PySem.W.hideAll h (trk h H)
theorem hidT_size (h : Heap) (H : Hp) : (hidT h H).objs.size = h.objs.size := PySem.W.hideAll_size _ _
theorem hidT_get {h : Heap} {H : Hp} {b : Addr} {o : Obj} (e : h.get? b = some o) (n : H b = none) : (hidT h H).get? b = some o :=
  PySem.W.hideAll_get _ e fun hm => by
    have q : (H b).isSome = true := (List.mem_filter.mp hm).2
    rw [n] at q; simp at q
theorem of_hidT {h : Heap} {H : Hp} {b : Addr} {o : Obj} (e : (hidT h H).get? b = some o) : h.get? b = some o ∧ H b = none := by
  have e' : h.get? b = some o := PySem.W.of_hideAll (trk h H) e
  refine ⟨e', ?_⟩
  cases q : H b with
  | none => rfl
  | some x =>
    have hm : b ∈ trk h H := List.mem_filter.mpr ⟨List.mem_range.mpr (Heap.lt_size e'), by simp [q]⟩
    have z : (hidT h H).get? b = none := PySem.W.hideAll_none (trk h H) hm
    rw [z] at e; cases e
end L2
namespace L2
open PySem PySem.Spec PyProof.Rows
structure Mod (K : PySem.W.Frag) (mg : Str → Option Value) (base : Heap) : Prop where
  kin : K.In base
  glob : base.Ns mainGlobals mg
  blt : ∃ mb, base.Ns builtinsNs mb ∧ ∀ x : Str, x ≠ "__name__" → mb x = bootBuiltins x
  nolimit : base.NoLimit
structure Cx where
  prog : Program
  w : World
  K : PySem.W.Frag
  mg : Str → Option Value
  base : Heap
  A : Around
  N : List Str
  s₀ : Shared
  H₀ : Hp
  env : Env
  outer : List Env
  stack : List Env
  ex : List Addr
  fn : Str → Bool
  calm : Bool
  pn : List (Addr × Obj)
  xe : Value → Shared → Prop
def frs (l : List Env) : List Addr := l.filterMap (·.frame)
abbrev Cx.fs (X : Cx) : List Addr := frs X.outer
def Vis (sc : Scope) (x : Str) : Prop := sc.names.lookup x = some .local ∨ sc.names.lookup x = some .cell ∨ sc.names.lookup x = some .free
def Loc (sc : Scope) (x : Str) : Prop := sc.names.lookup x = some .local ∨ sc.names.lookup x = some .cell
def Look (env : Env) (h : Heap) (m : Str → Option Value) (x : Str) (u : Value) : Prop :=
  (env.kindOf x = some .local ∧ m x = some u) ∨ ((env.kindOf x = some .cell ∨ env.kindOf x = some .free) ∧ ∃ c, env.cells.lookup x = some c ∧ h.IsCell c (some u))
structure Cx.Ok (X : Cx) : Prop where
  mod : Mod X.K X.mg X.base
  kind : X.env.scope.kind = .function
  glob : X.env.globals = mainGlobals
  blt : X.env.builtins = builtinsNs
  above : X.s₀.heap.objs.size ≤ X.env.locals
  inj : ∀ x y c, X.env.cells.lookup x = some c → X.env.cells.lookup y = some c → x = y
  has : ∀ x, (X.env.kindOf x = some .cell ∨ X.env.kindOf x = some .free) → ∃ c, X.env.cells.lookup x = some c
  cab : ∀ x c, X.fn x = true → X.env.cells.lookup x = some c → X.s₀.heap.objs.size ≤ c
  hd : X.calm = true → X.A.handled = none
  frames : X.A.frames = some X.stack
  stk : X.stack = X.outer ∨ (X.stack = X.env :: X.outer ∧ X.env.frame = some X.env.locals)
  exf : ∀ b ∈ X.ex, b ≠ X.env.locals ∧ ∀ x c, X.env.cells.lookup x = some c → c ≠ b
  bs : ∀ b o, X.base.get? b = some o → X.s₀.heap.get? b = some o ∧ X.H₀ b = none
  bsz : X.base.objs.size ≤ X.s₀.heap.objs.size
  noex : ∀ b o, X.base.get? b = some o → b ∉ X.ex
  exfs : ∀ b ∈ X.ex, b ∉ X.fs
  funs : X.s₀.heap.FunFrames X.base X.outer
  frf : ∀ b ∈ X.fs, X.H₀ b = none
structure Inv (X : Cx) (pins : List (Addr × Obj)) (σ : List (Option V)) (H : Hp) (s : Shared) : Prop where
  ok : X.Ok
  os : s.os = X.s₀.os
  bare : AllBare s.gens
  base : Un X.fs X.ex X.H₀ H X.s₀.heap s.heap
  loc : ∃ m, s.heap.Ns X.env.locals m ∧ ∀ (i : Nat) (x : Str) (v : V), X.N[i]? = some x → σ[i]? = some (some v) → Vis X.env.scope x → ∃ u, RelV v u ∧ Look X.env s.heap m x u
  cell : ∀ x c, X.env.cells.lookup x = some c → ∃ v, s.heap.IsCell c v
  free : H X.env.locals = none
  freeC : ∀ x c, X.env.cells.lookup x = some c → H c = none
  pin : ∀ p ∈ X.pn ++ pins, s.heap.get? p.1 = some p.2 ∧ H p.1 = none ∧ p.1 ≠ X.env.locals ∧ p.1 ∉ X.fs ∧ ∀ v, p.2.data ≠ .cell v
  hok : HOk X.prog X.w H s.heap
  len : σ.length = X.N.length
section
variable {X : Cx} {pins : List (Addr × Obj)} {σ : List (Option V)} {H H' : Hp} {s : Shared} {h' : Heap}
theorem Cx.Ok.nofr (ok : X.Ok) {b : Addr} {o : Obj} (e : X.base.get? b = some o) : b ∉ X.fs := fun hb => by
  have := (ok.funs.mem hb).1
  rw [e] at this; cases this
theorem Inv.bs (I : Inv X pins σ H s) : ∀ b o, X.base.get? b = some o → s.heap.get? b = some o ∧ H b = none := fun b o e =>
  ⟨I.base.keep b o (I.ok.bs b o e).1 (I.ok.bs b o e).2 (I.ok.nofr e) (I.ok.noex b o e), I.base.free b o (I.ok.bs b o e).1 (I.ok.bs b o e).2 (I.ok.noex b o e)⟩
theorem Inv.bk (I : Inv X pins σ H s) : ∀ b o, X.base.get? b = some o → s.heap.get? b = some o := fun b o e => (I.bs b o e).1
theorem Inv.mod (I : Inv X pins σ H s) : Mod X.K X.mg X.base := I.ok.mod
theorem Inv.kIn (I : Inv X pins σ H s) : X.K.In s.heap := I.ok.mod.kin.keeps I.bk
theorem Inv.lt (I : Inv X pins σ H s) : X.env.locals < s.heap.objs.size := let ⟨_, hn, _⟩ := I.loc; hn.lt
theorem Inv.sz (I : Inv X pins σ H s) : X.s₀.heap.objs.size ≤ s.heap.objs.size := Nat.le_trans I.ok.above (Nat.le_of_lt I.lt)
theorem Inv.nofs (I : Inv X pins σ H s) {a : Addr} (h : s.heap.objs.size ≤ a) : a ∉ X.fs := fun hb => by
  obtain ⟨_, o, ho, _⟩ := I.ok.funs.mem hb
  exact absurd (Nat.lt_of_lt_of_le (Heap.lt_size ho) (Nat.le_trans I.sz h)) (Nat.lt_irrefl _)
theorem Inv.cne (I : Inv X pins σ H s) : ∀ x c, X.env.cells.lookup x = some c → c ≠ X.env.locals := fun x c e z => by
  obtain ⟨v, o, ho, hd⟩ := I.cell x c e
  obtain ⟨m, ⟨o', es, ep, ho', hd', _⟩, _⟩ := I.loc
  rw [z, ho'] at ho; cases ho; rw [hd'] at hd; cases hd
theorem Inv.funs (I : Inv X pins σ H s) : s.heap.FunFrames X.base X.outer := by
  have all : ∀ (l : List Env), (∀ b ∈ frs l, b ∈ X.fs) → X.s₀.heap.FunFrames X.base l → s.heap.FunFrames X.base l := by
    intro l
    induction l with
    | nil => intro _ _; trivial
    | cons env r ih =>
      intro hs hl
      obtain ⟨hk, ⟨L, o, hf, hn, ho, hd⟩, hr⟩ := hl
      have hL : L ∈ X.fs := hs L (by unfold frs; rw [List.filterMap_cons, hf]; exact List.mem_cons_self)
      obtain ⟨sl, e⟩ := I.base.slot L o ho (I.ok.frf L hL) hL fun z => I.ok.exfs L z hL
      exact ⟨hk, ⟨L, _, hf, hn, e, hd⟩, ih (fun b hb => hs b (by unfold frs; rw [List.filterMap_cons, hf]; exact List.mem_cons_of_mem _ hb)) hr⟩
  exact all X.outer (fun _ hb => hb) I.ok.funs
theorem Inv.stack (I : Inv X pins σ H s) : s.heap.FunFrames X.base X.stack := by
  rcases I.ok.stk with e | ⟨e, hf⟩
  · rw [e]; exact I.funs
  · rw [e]
    obtain ⟨m, hn, _⟩ := I.loc
    refine .cons (by rw [I.ok.kind]; decide) hf hn ?_ I.funs
    exact Heap.get?_none_of_le (Nat.le_trans I.ok.bsz I.ok.above)
theorem Inv.stkSub (I : Inv X pins σ H s) : ∀ b ∈ frs X.stack, b ∈ X.env.locals :: X.fs := fun b hb => by
  rcases I.ok.stk with e | ⟨e, hf⟩
  · rw [e] at hb; exact List.mem_cons_of_mem _ hb
  · rw [e] at hb
    unfold frs at hb
    rw [List.filterMap_cons, hf] at hb
    exact hb
theorem Inv.stkFree (I : Inv X pins σ H s) : ∀ b ∈ frs X.stack, H b = none := fun b hb => by
  rcases List.mem_cons.mp (I.stkSub b hb) with e | hb
  · rw [e]; exact I.free
  · obtain ⟨_, o, ho, _⟩ := I.ok.funs.mem hb
    exact I.base.free b o ho (I.ok.frf b hb) fun z => I.ok.exfs b z hb
theorem Inv.step {g' : Array GenState} {t' : Nat} {d' : Drawn} {ch : List Addr} (I : Inv X pins σ H s)
    (hch : ∀ b ∈ ch, (b ∈ X.ex ∨ X.s₀.heap.objs.size ≤ b) ∧ b ≠ X.env.locals ∧ (∀ x c, X.env.cells.lookup x = some c → c ≠ b) ∧ ∀ p ∈ X.pn ++ pins, p.1 ≠ b)
    (keep : ∀ b o, b ≠ X.env.locals → b ∉ X.fs → b ∉ ch → s.heap.get? b = some o → H b = none → h'.get? b = some o)
    (slot : ∀ b o, b ≠ X.env.locals → b ∈ X.fs → b ∉ ch → s.heap.get? b = some o → H b = none → ∃ sl, h'.get? b = some { o with slots := sl }) (free : ∀ b o, b ∉ ch → s.heap.get? b = some o → H b = none → H' b = none)
    (there : ∀ b o, b ∉ ch → s.heap.get? b = some o → ∃ o', h'.get? b = some o')
    (tups : ∀ b xs, H b = some (.tup xs) → H' b = some (.tup xs)) (frzs : ∀ b o u, H b = some (.frz o u) → H' b = some (.frz o u)) (tbls : ∀ b ps, H b = some (.tbl ps) → ∃ more, H' b = some (.tbl (ps ++ more)))
    (ns : ∀ m, s.heap.Ns X.env.locals m → h'.Ns X.env.locals m) (hok : HOk X.prog X.w H' h') (hg : AllBare g') :
    Inv X pins σ H' { s with heap := h', gens := g', drawn := d', toks := t' } := by
  have neL : ∀ b o, X.s₀.heap.get? b = some o → b ≠ X.env.locals := fun b o e => Nat.ne_of_lt (Nat.lt_of_lt_of_le (Heap.lt_size e) I.ok.above)
  have neC : ∀ b o, X.s₀.heap.get? b = some o → b ∉ X.ex → b ∉ ch := fun b o e hx hb => by
    rcases (hch b hb).1 with z | z
    · exact hx z
    · exact absurd (Nat.lt_of_lt_of_le (Heap.lt_size e) z) (Nat.lt_irrefl _)
  have cellK : ∀ x c, X.env.cells.lookup x = some c → ∀ v, s.heap.IsCell c v → h'.IsCell c v := fun x c e v ⟨o, ho, hd⟩ => by
    have nch : c ∉ ch := fun z => (hch c z).2.2.1 x c e rfl
    by_cases hc : c ∈ X.fs
    · obtain ⟨sl, q⟩ := slot c o (I.cne x c e) hc nch ho (I.freeC x c e)
      exact ⟨_, q, hd⟩
    · exact ⟨o, keep c o (I.cne x c e) hc nch ho (I.freeC x c e), hd⟩
  refine ⟨I.ok, I.os, hg, ⟨fun b o e n hb hx => ?_, fun b o e n hb hx => ?_, fun b o e n hx => ?_, fun b o e hx => ?_, fun b xs e => tups b xs (I.base.tups b xs e), fun b o xs e => frzs b o xs (I.base.frzs b o xs e), fun b ps e => ?_⟩, ?_, fun x c e => ?_, ?_, fun x c e => ?_, fun p hp => ?_, hok, I.len⟩
  · exact keep b o (neL b o e) hb (neC b o e hx) (I.base.keep b o e n hb hx) (I.base.free b o e n hx)
  · obtain ⟨sl, e1⟩ := I.base.slot b o e n hb hx
    obtain ⟨sl', e2⟩ := slot b _ (neL b o e) hb (neC b o e hx) e1 (I.base.free b o e n hx)
    exact ⟨sl', e2⟩
  · obtain ⟨o', e1⟩ := I.base.there b o e hx
    exact free b o' (neC b o e hx) e1 (I.base.free b o e n hx)
  · obtain ⟨o', e1⟩ := I.base.there b o e hx
    exact there b o' (neC b o e hx) e1
  · obtain ⟨m1, e1⟩ := I.base.tbls b ps e
    obtain ⟨m2, e2⟩ := tbls b _ e1
    exact ⟨m1 ++ m2, by rw [e2, Array.append_assoc]⟩
  · obtain ⟨m, hn, hl⟩ := I.loc
    refine ⟨m, ns m hn, fun i x v e1 e2 e3 => ?_⟩
    obtain ⟨u, r, l⟩ := hl i x v e1 e2 e3
    refine ⟨u, r, ?_⟩
    rcases l with l | ⟨k, c, e, z⟩
    · exact .inl l
    · exact .inr ⟨k, c, e, cellK x c e _ z⟩
  · obtain ⟨v, z⟩ := I.cell x c e
    exact ⟨v, cellK x c e v z⟩
  · obtain ⟨m, ⟨o, _, _, ho, _⟩, _⟩ := I.loc
    exact free _ o (fun z => (hch _ z).2.1 rfl) ho I.free
  · obtain ⟨v, o, ho, hd⟩ := I.cell x c e
    exact free c o (fun z => (hch c z).2.2.1 x c e rfl) ho (I.freeC x c e)
  · obtain ⟨e, n, ne, nf, d⟩ := I.pin p hp
    have nch : p.1 ∉ ch := fun z => (hch p.1 z).2.2.2 p hp rfl
    exact ⟨keep p.1 p.2 ne nf nch e n, free p.1 p.2 nch e n, ne, nf, d⟩
theorem Inv.un {t' : Nat} (I : Inv X pins σ H s) (u : Un X.fs [] H H' s.heap h') (hok : HOk X.prog X.w H' h') : Inv X pins σ H' { s with heap := h', toks := t' } := by
  obtain ⟨m, ⟨o, es, ep, ho, r⟩, _⟩ := id I.loc
  obtain ⟨sl, hL⟩ := u.any ho I.free (by simp)
  exact I.step (g' := s.gens) (d' := s.drawn) (ch := []) (fun _ z => nomatch z) (fun b o _ hb _ e n => u.keep b o e n hb (by simp)) (fun b o _ hb _ e n => u.slot b o e n hb (by simp)) (fun b o _ e n => u.free b o e n (by simp)) (fun b o _ e => u.there b o e (by simp)) u.tups u.frzs u.tbls (fun m' hm => by
    obtain ⟨o', es', ep', ho', r'⟩ := hm
    rw [ho] at ho'; cases ho'
    exact ⟨_, es', ep', hL, r'⟩) hok I.bare
theorem Inv.call {g' : Array GenState} {t' : Nat} {d' : Drawn} {ch : List Addr} (I : Inv X pins σ H s) (u : Un (frs X.stack) ch H H' s.heap h') (hok : HOk X.prog X.w H' h') (hg : AllBare g')
    (hch : ∀ b ∈ ch, (b ∈ X.ex ∨ X.s₀.heap.objs.size ≤ b) ∧ b ≠ X.env.locals ∧ (∀ x c, X.env.cells.lookup x = some c → c ≠ b) ∧ ∀ p ∈ X.pn ++ pins, p.1 ≠ b) :
    Inv X pins σ H' { s with heap := h', gens := g', drawn := d', toks := t' } := by
  obtain ⟨m, ⟨o, es, ep, ho, r⟩, _⟩ := id I.loc
  obtain ⟨sl, hL⟩ := u.any ho I.free fun z => (hch _ z).2.1 rfl
  exact I.step (ch := ch) hch (fun b o hL hb hc e n => u.keep b o e n (fun z => (List.mem_cons.mp (I.stkSub b z)).elim hL hb) hc) (fun b o _ _ hc e n => u.any e n hc) (fun b o hc e n => u.free b o e n hc) (fun b o hc e => u.there b o e hc) u.tups u.frzs u.tbls (fun m' hm => by
    obtain ⟨o', es', ep', ho', r'⟩ := hm
    rw [ho] at ho'; cases ho'
    exact ⟨_, es', ep', hL, r'⟩) hok hg
theorem Inv.turned {t' : Nat} {it : Addr} (I : Inv X pins σ H s) (k : ∀ b o, b ≠ it → s.heap.get? b = some o → h'.get? b = some o) (hn : H it = none) (hL : it ≠ X.env.locals)
    (h1 : it ∈ X.ex ∨ X.s₀.heap.objs.size ≤ it) (h2 : ∀ x c, X.env.cells.lookup x = some c → c ≠ it) (h3 : ∀ p ∈ X.pn ++ pins, p.1 ≠ it) : Inv X pins σ H { s with heap := h', toks := t' } := by
  have nit : ∀ b u, H b = some u → b ≠ it := fun b u e z => by rw [z, hn] at e; cases e
  refine I.step (g' := s.gens) (d' := s.drawn) (ch := [it]) (fun b hb => ?_) (fun b o _ _ hc e _ => k b o (fun z => hc (by simp [z])) e) (fun b o _ _ hc e _ => ⟨o.slots, k b o (fun z => hc (by simp [z])) e⟩) (fun _ _ _ _ n => n)
    (fun b o hc e => ⟨o, k b o (fun z => hc (by simp [z])) e⟩) (fun _ _ e => e) (fun _ _ _ e => e) (fun b ps e => ⟨#[], by rw [e]; simp⟩) (fun m hm => ?_) (fun b u e => ?_) I.bare
  · have e : b = it := by simpa using hb
    subst e
    exact ⟨h1, hL, h2, h3⟩
  · obtain ⟨o, es, ep, ho, r⟩ := hm
    exact ⟨o, es, ep, k _ o (Ne.symm hL) ho, r⟩
  · refine (I.hok b u e).stay (fun c v hc q => k c v ?_ q) (fun _ q => q) fun _ _ q => q
    rcases hc with z | z
    · rw [z]; exact nit b u e
    · exact nit c _ z
theorem Inv.tok (I : Inv X pins σ H s) (t : Nat) : Inv X pins σ H { s with toks := t } := I.un (h' := s.heap) (t' := t) Un.refl I.hok
theorem Inv.kept {t' : Nat} (I : Inv X pins σ H s) (k : ∀ b u, s.heap.get? b = some u → h'.get? b = some u) : Inv X pins σ H { s with heap := h', toks := t' } := I.un (Un.kept k) (I.hok.kept k)
theorem Inv.laid {a : Addr} {o : HO} {t' : Nat} (I : Inv X pins σ H s) (k : ∀ b u, s.heap.get? b = some u → h'.get? b = some u) (hp : s.heap.objs.size ≤ a) (new : ObjOk X.prog X.w (upd H a o) h' a o) :
    Inv X pins σ (upd H a o) { s with heap := h', toks := t' } := I.un (Un.laid k hp (I.hok.fresh hp)) (I.hok.laid k hp new)
theorem Inv.write {x e : Addr} {o : HO} {t' : Nat} (I : Inv X pins σ H s) (mu : Mut (H x)) (he : e = x ∨ H e = some (.own x)) (k : ∀ b u, b ≠ e → s.heap.get? b = some u → h'.get? b = some u) (heo : ∃ u, h'.get? e = some u)
    (new : ObjOk X.prog X.w (upd H x o) h' x o) : Inv X pins σ (upd H x o) { s with heap := h', toks := t' } := I.un (Un.write mu he k heo) (I.hok.write mu he k heo new)
theorem Inv.pins_of {pins' : List (Addr × Obj)} (I : Inv X pins σ H s) (h : ∀ p ∈ pins', s.heap.get? p.1 = some p.2 ∧ H p.1 = none ∧ p.1 ≠ X.env.locals ∧ p.1 ∉ X.fs ∧ ∀ v, p.2.data ≠ .cell v) : Inv X pins' σ H s :=
  ⟨I.ok, I.os, I.bare, I.base, I.loc, I.cell, I.free, I.freeC, fun p hp => (List.mem_append.mp hp).elim (fun z => I.pin p (List.mem_append_left _ z)) (h p), I.hok, I.len⟩
theorem nodup_ix {N : List Str} (hN : N.Nodup) {i j : Nat} {x : Str} (a : N[i]? = some x) (b : N[j]? = some x) : i = j := by
  obtain ⟨h1, e1⟩ := List.getElem?_eq_some_iff.mp a
  obtain ⟨h2, e2⟩ := List.getElem?_eq_some_iff.mp b
  exact (List.getElem_inj hN).mp (e1.trans e2.symm)
theorem store_ok2 {M : Model} {A : Around} {E : Value → Shared → Prop} {i : Nat} {x : Str} {v : V} {u : Value} {Q : Unit → Shared → Prop} (I : Inv X pins σ H s) (hN : X.N.Nodup) (hi : X.N[i]? = some x) (hx : Loc X.env.scope x) (r : RelV v u)
    (h : ∀ s', Inv X pins (σ.set i (some v)) H s' → (∃ a, Heap.SameBut a s.heap s'.heap ∧ (a = X.env.locals ∨ X.env.cells.lookup x = some a)) → Q () s') (hf : X.fn x = true ∨ X.env.scope.names.lookup x = some .local := by first | exact .inl rfl | exact .inr rfl | assumption) : wpAny M A (storeName X.env x u) Q E s := by
  obtain ⟨m, hn, hl⟩ := id I.loc
  have hcls : (X.env.scope.kind == .class || (X.env.scope.kind == .module && X.env.locals != X.env.globals)) = false := by rw [I.ok.kind]; rfl
  have hiσ : i < σ.length := by rw [I.len]; exact (List.getElem?_eq_some_iff.mp hi).1
  have cne := I.cne
  have tracked : ∀ {a : Addr} {h' : Heap}, (∃ o, s.heap.get? a = some o ∧ H a = none) → Heap.SameBut a s.heap h' → HOk X.prog X.w H h' := fun {a h'} ha hs b ob e => by
    obtain ⟨_, _, hfree⟩ := ha
    refine (I.hok b ob e).stay (fun c w' hc q => (hs.2 c ?_).trans q) (fun _ q => q) fun _ _ q => q
    rintro rfl
    rcases hc with rfl | hc
    · rw [hfree] at e; cases e
    · rw [hfree] at hc; cases hc
  rcases hx with hk | hk
  · refine wpAny_storeName_local hk hn (fun h' hn' hs => ?_) hcls
    obtain ⟨oL, _, _, hoL, _⟩ := id hn
    refine h _ ⟨I.ok, I.os, I.bare, ⟨fun b o e n hb hx => ?_, fun b o e n hb hx => ?_, I.base.free, fun b o e hx => ?_, I.base.tups, I.base.frzs, I.base.tbls⟩, ⟨_, hn', fun j y v' e1 e2 e3 => ?_⟩, fun y c e => ?_, I.free, I.freeC, fun p hp => ?_, tracked ⟨oL, hoL, I.free⟩ hs, by simpa using I.len⟩ ⟨_, hs, .inl rfl⟩
    · exact (hs.2 b (Nat.ne_of_lt (Nat.lt_of_lt_of_le (Heap.lt_size e) I.ok.above))).trans (I.base.keep b o e n hb hx)
    · obtain ⟨sl, e1⟩ := I.base.slot b o e n hb hx
      exact ⟨sl, (hs.2 b (Nat.ne_of_lt (Nat.lt_of_lt_of_le (Heap.lt_size e) I.ok.above))).trans e1⟩
    · obtain ⟨o', e1⟩ := I.base.there b o e hx
      exact ⟨o', (hs.2 b (Nat.ne_of_lt (Nat.lt_of_lt_of_le (Heap.lt_size e) I.ok.above))).trans e1⟩
    · by_cases hj : j = i
      · subst hj
        rw [hi] at e1; cases e1
        rw [List.getElem?_set_self hiσ] at e2
        cases e2
        exact ⟨u, r, .inl ⟨hk, by simp⟩⟩
      · rw [List.getElem?_set_ne (Ne.symm hj)] at e2
        obtain ⟨u', r', q⟩ := hl j y v' e1 e2 e3
        refine ⟨u', r', ?_⟩
        rcases q with ⟨k, e⟩ | ⟨k, c, e, z⟩
        · refine .inl ⟨k, ?_⟩
          have : y ≠ x := fun e => hj (nodup_ix hN e1 (e ▸ hi))
          simp [this, e]
        · exact .inr ⟨k, c, e, z.sameBut hs (cne y c e)⟩
    · obtain ⟨w', z⟩ := I.cell y c e
      exact ⟨w', z.sameBut hs (cne y c e)⟩
    · obtain ⟨e, n, ne, nf, d⟩ := I.pin p hp
      exact ⟨(hs.2 p.1 ne).trans e, n, ne, nf, d⟩
  · have hfn : X.fn x = true := by
      rcases hf with z | z
      · exact z
      · rw [z] at hk; cases hk
    obtain ⟨c, hc⟩ := I.ok.has x (.inl hk)
    obtain ⟨w', z⟩ := I.cell x c hc
    refine wpAny_storeName_cell I.ok.kind hk hc z (fun h' hc' hs => ?_)
    obtain ⟨oc, hoc, hocd⟩ := id z
    refine h { s with heap := h' } ⟨I.ok, I.os, I.bare, ⟨fun b o e n hb hx => ?_, fun b o e n hb hx => ?_, I.base.free, fun b o e hx => ?_, I.base.tups, I.base.frzs, I.base.tbls⟩, ⟨m, hn.sameBut hs (Ne.symm (cne x c hc)), fun j y v' e1 e2 e3 => ?_⟩, fun y c' e => ?_, I.free, I.freeC, fun p hp => ?_, tracked ⟨oc, hoc, I.freeC x c hc⟩ hs, by simpa using I.len⟩ ⟨c, hs, .inr hc⟩
    · exact (hs.2 b (Nat.ne_of_lt (Nat.lt_of_lt_of_le (Heap.lt_size e) (I.ok.cab x c hfn hc)))).trans (I.base.keep b o e n hb hx)
    · obtain ⟨sl, e1⟩ := I.base.slot b o e n hb hx
      exact ⟨sl, (hs.2 b (Nat.ne_of_lt (Nat.lt_of_lt_of_le (Heap.lt_size e) (I.ok.cab x c hfn hc)))).trans e1⟩
    · obtain ⟨o', e1⟩ := I.base.there b o e hx
      exact ⟨o', (hs.2 b (Nat.ne_of_lt (Nat.lt_of_lt_of_le (Heap.lt_size e) (I.ok.cab x c hfn hc)))).trans e1⟩
    · by_cases hj : j = i
      · subst hj
        rw [hi] at e1; cases e1
        rw [List.getElem?_set_self hiσ] at e2
        cases e2
        exact ⟨u, r, .inr ⟨.inl hk, c, hc, hc'⟩⟩
      · rw [List.getElem?_set_ne (Ne.symm hj)] at e2
        obtain ⟨u', r', q⟩ := hl j y v' e1 e2 e3
        refine ⟨u', r', ?_⟩
        rcases q with q | ⟨k, c', e, z'⟩
        · exact .inl q
        · refine .inr ⟨k, c', e, z'.sameBut hs ?_⟩
          rintro rfl
          exact hj (nodup_ix hN e1 (I.ok.inj _ _ _ e hc ▸ hi))
    · by_cases hcc : c' = c
      · subst hcc; exact ⟨_, hc'⟩
      · obtain ⟨w2, z2⟩ := I.cell y c' e
        exact ⟨w2, z2.sameBut hs hcc⟩
    · obtain ⟨e, n, ne, nf, d⟩ := I.pin p hp
      refine ⟨(hs.2 p.1 ?_).trans e, n, ne, nf, d⟩
      intro q
      rw [q, hoc] at e
      have q' : oc = p.2 := Option.some.inj e
      exact d w' (by rw [← q']; exact hocd)
theorem store_ok {M : Model} {A : Around} {E : Value → Shared → Prop} {i : Nat} {x : Str} {v : V} {u : Value} {Q : Unit → Shared → Prop} (I : Inv X pins σ H s) (hN : X.N.Nodup) (hi : X.N[i]? = some x) (hx : Loc X.env.scope x) (r : RelV v u)
    (h : ∀ s', Inv X pins (σ.set i (some v)) H s' → Q () s') (hf : X.fn x = true ∨ X.env.scope.names.lookup x = some .local := by first | exact .inl rfl | exact .inr rfl | assumption) : wpAny M A (storeName X.env x u) Q E s :=
  store_ok2 I hN hi hx r (fun s' I' _ => h s' I') hf
theorem Inv.call' {s' : Shared} {ch : List Addr} (I : Inv X pins σ H s) (ho : s'.os = s.os) (u : Un (frs X.stack) ch H H' s.heap s'.heap) (hok : HOk X.prog X.w H' s'.heap) (hg : AllBare s'.gens)
    (hch : ∀ b ∈ ch, (b ∈ X.ex ∨ X.s₀.heap.objs.size ≤ b) ∧ b ≠ X.env.locals ∧ (∀ x c, X.env.cells.lookup x = some c → c ≠ b) ∧ ∀ p ∈ X.pn ++ pins, p.1 ≠ b) : Inv X pins σ H' s' := by
  obtain ⟨h', g', d', t', o'⟩ := s'
  have e : o' = s.os := ho
  subst e
  exact I.call (g' := g') (t' := t') (d' := d') u hok hg hch
end
abbrev XK := Value → Option Addr → Hp → Prop
abbrev St := List (Option V)
abbrev VK := V → Hp → Prop
abbrev TE := St → Hp → VK → Prop
abbrev TT := St → Hp → (Bool → Hp → Prop) → Prop
abbrev TA := St → Hp → (List V → Hp → Prop) → Prop
structure Ends where
  nx : St → Hp → Prop
  rt : VK
  bk : St → Hp → Prop := fun _ _ => False
  ct : St → Hp → Prop := fun _ _ => False
abbrev TS := Ends → St → Hp → Prop
def EP (X : Cx) (pins : List (Addr × Obj)) (σ : St) (Q : VK) (u : Value) (s' : Shared) : Prop := ∃ v H', Inv X pins σ H' s' ∧ RelV v u ∧ Q v H'
def TP (X : Cx) (pins : List (Addr × Obj)) (σ : St) (Q : Bool → Hp → Prop) (b : Bool) (s' : Shared) : Prop := ∃ H', Inv X pins σ H' s' ∧ Q b H'
def AP (X : Cx) (pins : List (Addr × Obj)) (σ : St) (Q : List V → Hp → Prop) (us : List Value) (s' : Shared) : Prop := ∃ vs H', Inv X pins σ H' s' ∧ Vals vs us ∧ Q vs H'
def SP (X : Cx) (pins : List (Addr × Obj)) (D : Ends) (f : Flow) (s' : Shared) : Prop :=
  match f with
  | .next => ∃ σ' H', Inv X pins σ' H' s' ∧ D.nx σ' H'
  | .brk => ∃ σ' H', Inv X pins σ' H' s' ∧ D.bk σ' H'
  | .cont => ∃ σ' H', Inv X pins σ' H' s' ∧ D.ct σ' H'
  | .ret u => ∃ v σ' H', Inv X pins σ' H' s' ∧ RelV v u ∧ D.rt v H'
def PE (X : Cx) (e : Expr) (t : TE) : Prop :=
  ∀ (pins : List (Addr × Obj)) (s : Shared) (σ : St) (H : Hp) (Q : VK), Inv X pins σ H s → t σ H Q → wpAny (model X.prog X.w) X.A (eval e X.env) (EP X pins σ Q) X.xe s
def PT (X : Cx) (e : Expr) (t : TT) : Prop :=
  ∀ (pins : List (Addr × Obj)) (s : Shared) (σ : St) (H : Hp) (Q : Bool → Hp → Prop), Inv X pins σ H s → t σ H Q → wpAny (model X.prog X.w) X.A (isTrue e X.env (eval e X.env)) (TP X pins σ Q) X.xe s
def PW (X : Cx) (e : Expr) (t : TT) : Prop :=
  ∀ (whole : Sem Value) (pins : List (Addr × Obj)) (s : Shared) (σ : St) (H : Hp) (Q : Bool → Hp → Prop), Inv X pins σ H s → t σ H Q → wpAny (model X.prog X.w) X.A (isTrue e X.env whole) (TP X pins σ Q) X.xe s
theorem PW.pt {X : Cx} {e : Expr} {t : TT} (h : PW X e t) : PT X e t := h _
def PA (X : Cx) (es : List Expr) (t : TA) : Prop :=
  ∀ (pos : Pos) (pins : List (Addr × Obj)) (s : Shared) (σ : St) (H : Hp) (Q : List V → Hp → Prop), Inv X pins σ H s → t σ H Q → wpAny (model X.prog X.w) X.A (spliced (backTo pos (starEach es X.env))) (AP X pins σ Q) X.xe s
def PS (X : Cx) (st : Stmt) (t : TS) : Prop :=
  ∀ (pins : List (Addr × Obj)) (s : Shared) (σ : St) (H : Hp) (D : Ends), Inv X pins σ H s → t D σ H → wpAny (model X.prog X.w) X.A (exec st X.env) (SP X pins D) X.xe s
def PSs (X : Cx) (st : List Stmt) (t : TS) : Prop :=
  ∀ (pins : List (Addr × Obj)) (s : Shared) (σ : St) (H : Hp) (D : Ends), Inv X pins σ H s → t D σ H → wpAny (model X.prog X.w) X.A (execs st X.env) (SP X pins D) X.xe s
theorem thn {α : Type} {t : Sem α} {Q Q' : α → Shared → Prop} {M : Model} {A : Around} {E : Value → Shared → Prop} {s : Shared} (h : wpAny M A t Q E s) (hQ : ∀ a s, Q a s → Q' a s) : wpAny M A t Q' E s := wpAny_mono h hQ fun _ _ x => x
end L2
namespace L2
open PySem PySem.Spec PyProof.Rows
section
variable {X : Cx}
def tVar (i : Nat) : TE := fun σ H Q => ∃ v, σ[i]? = some (some v) ∧ Q v H
def tC (v : V) : TE := fun _ H Q => Q v H
theorem pe_var {i : Nat} {x : Str} {pos : Pos} (hN : X.N[i]? = some x) (hv : Vis X.env.scope x) (hd : (x == ("__debug__" : Str)) = false := by decide) (hcd : (x == ("__classdict__" : Str)) = false := by decide) : PE X (.Name x pos) (tVar i) := by
  intro pins s σ H Q I h
  obtain ⟨v, e, h⟩ := h
  obtain ⟨m, hn, hl⟩ := I.loc
  obtain ⟨u, r, l⟩ := hl i x v hN e hv
  have fin : EP X pins σ Q u s := ⟨v, H, I, r, h⟩
  rcases l with ⟨hk, hm⟩ | ⟨hk, c, hc, hcell⟩
  · exact wpAny_Name (wpAny_loadName_local I.ok.kind hk hn hm fin) hd
  · rcases hk with hk | hk
    · exact wpAny_Name (wpAny_loadName_cell I.ok.kind hk hc hcell fin) hd
    · exact wpAny_Name (wpAny_loadName_free I.ok.kind hk hc hcell fin hcd) hd
theorem pe_int {i j pos} : PE X (.Constant (.int i) j pos) (tC (.int i)) := fun _ _ _ H _ I h => wpAny_Constant_int ⟨.int i, H, I.tok _, ⟨_, rfl⟩, h⟩
theorem pe_bl {b j pos} : PE X (.Constant (.bool b) j pos) (tC (.bl b)) := fun _ _ _ H _ I h => Constant_bool ⟨.bl b, H, I, rfl, h⟩
theorem pe_str {x j pos} : PE X (.Constant (.str x) j pos) (tC (.str x)) := fun _ _ _ H _ I h => Calls.Constant_str ⟨.str x, H, I.tok _, ⟨_, rfl⟩, h⟩
def Gl (X : Cx) (x : Str) : Prop := X.env.kindOf x = some .globalImplicit
theorem ld_glob {E : Value → Shared → Prop} {pins : List (Addr × Obj)} {s : Shared} {σ : St} {H : Hp} {x : Str} {u : Value} {pos : Pos} {Q : Value → Shared → Prop} (I : Inv X pins σ H s) (hg : Gl X x) (hm : X.mg x = some u) (h : Q u s)
    (hd : (x == ("__debug__" : Str)) = false := by decide) : wpAny (model X.prog X.w) X.A (eval (.Name x pos) X.env) Q E s :=
  Calls.Name_function_global I.ok.kind hg (Calls.loadGlobal_global (by rw [I.ok.glob]; exact I.mod.glob.keeps I.bk) hm h) hd
theorem ld_blt {E : Value → Shared → Prop} {pins : List (Addr × Obj)} {s : Shared} {σ : St} {H : Hp} {x : Str} {u : Value} {pos : Pos} {Q : Value → Shared → Prop} (I : Inv X pins σ H s) (hg : Gl X x) (hm : X.mg x = none) (hv : bootBuiltins x = some u) (h : Q u s)
    (hn : x ≠ "__name__" := by decide) (hd : (x == ("__debug__" : Str)) = false := by decide) : wpAny (model X.prog X.w) X.A (eval (.Name x pos) X.env) Q E s := by
  obtain ⟨mb, h1, h2⟩ := I.mod.blt
  exact Calls.Name_function_global I.ok.kind hg (Calls.loadGlobal_builtin (by rw [I.ok.glob]; exact I.mod.glob.keeps I.bk) hm (by rw [I.ok.blt]; exact h1.keeps I.bk) ((h2 x hn).trans hv) h) hd
theorem pe_glob {x : Str} {v : V} {u : Value} {pos : Pos} (hg : Gl X x) (hm : X.mg x = some u) (r : RelV v u) (hd : (x == ("__debug__" : Str)) = false := by decide) : PE X (.Name x pos) (tC v) :=
  fun _ _ _ H _ I h => ld_glob I hg hm ⟨v, H, I, r, h⟩ hd
theorem pe_bltn {x : Str} {v : V} {u : Value} {pos : Pos} (hg : Gl X x) (hm : X.mg x = none) (hv : bootBuiltins x = some u) (r : RelV v u) (hn : x ≠ "__name__" := by decide) (hd : (x == ("__debug__" : Str)) = false := by decide) : PE X (.Name x pos) (tC v) :=
  fun _ _ _ H _ I h => ld_blt I hg hm hv ⟨v, H, I, r, h⟩ hn hd
variable {a b : Expr} {ta tb : TE} {pos : Pos}
def PC (X : Cx) (op : CmpOp) (a b : Expr) (t : TE) : Prop :=
  ∀ (pins : List (Addr × Obj)) (s : Shared) (σ : St) (H : Hp) (Q : VK), Inv X pins σ H s → t σ H Q →
    wpAny (model X.prog X.w) X.A (eval a X.env) (fun v s₁ => wpAny (model X.prog X.w) X.A (eval b X.env) (fun u s₂ => wpAny (model X.prog X.w) X.A (compareOp op v u) (EP X pins σ Q) X.xe s₂) X.xe s₁) X.xe s
theorem nobehind (b : Expr) {op : CmpOp} (h : op ≠ .In) (h2 : op ≠ .NotIn) : behindInMarks op b = false := by
  have e1 : (op == CmpOp.In) = false := by cases op <;> first | rfl | exact absurd rfl h
  have e2 : (op == CmpOp.NotIn) = false := by cases op <;> first | rfl | exact absurd rfl h2
  cases b <;> simp [behindInMarks, e1, e2]
def tB (t : TE) : TT := fun σ H Q => t σ H fun x H1 => ∃ c, x = .bl c ∧ Q c H1
theorem pt_cmp {op : CmpOp} {t : TE} (h : PC X op a b t) (h1 : behindInMarks op b = false := by first | exact nobehind _ (by decide) (by decide) | rfl) : PT X (.Compare a [op] [b] pos) (tB t) := by
  intro pins s σ H Q I hw
  refine wpAny_isTrue_Compare1 (thn (h pins s σ H _ I hw) fun v s1 h1 => thn h1 fun u s2 h2 => thn h2 fun c s3 ⟨x, H1, I1, r1, q1⟩ => ?_) h1
  obtain ⟨d, rfl, q⟩ := q1
  cases r1
  exact wpAny_truthy_bool ⟨H1, I1, q⟩
theorem pt_val {e : Expr} {t : TE} (h : PE X e t) (he : ∀ whole, isTrue e X.env whole = (do let v ← whole; standAt e.pos; holding [v] (truthy v)) := by intro _; rfl) : PT X e (tB t) := by
  intro pins s σ H Q I hw
  refine isTrue_plain (thn (h pins s σ H _ I hw) fun v s1 ⟨x, H1, I1, r1, q1⟩ => ?_) (he _)
  obtain ⟨d, rfl, q⟩ := q1
  cases r1
  exact wpAny_truthy_bool ⟨H1, I1, q⟩
variable {tA tB' : TT} {rest : List Expr}
def tAnd (t u : TT) : TT := fun σ H Q => t σ H fun c H1 => if c = true then u σ H1 Q else Q false H1
def tOr (t u : TT) : TT := fun σ H Q => t σ H fun c H1 => if c = true then Q true H1 else u σ H1 Q
def tNot (t : TT) : TT := fun σ H Q => t σ H fun c H1 => Q (!c) H1
theorem pw_and1 (ha : PT X a tA) : PW X (.BoolOp .And [a] pos) tA := by
  intro wh pins s σ H Q I h
  refine isTrue_and (thn (ha pins s σ H Q I h) fun c s1 e => ?_)
  cases c with
  | true => exact isTrue_and_nil e
  | false => exact e
theorem pw_or1 (ha : PT X a tA) : PW X (.BoolOp .Or [a] pos) tA := by
  intro wh pins s σ H Q I h
  refine isTrue_or (thn (ha pins s σ H Q I h) fun c s1 e => ?_)
  cases c with
  | false => exact isTrue_or_nil e
  | true => exact e
theorem pw_and (ha : PT X a tA) (hb : PW X (.BoolOp .And (b :: rest) pos) tB') : PW X (.BoolOp .And (a :: b :: rest) pos) (tAnd tA tB') := by
  intro wh pins s σ H Q I h
  refine isTrue_and (thn (ha pins s σ H _ I h) fun c s1 ⟨H1, I1, q1⟩ => ?_)
  cases c with
  | true => exact hb wh pins s1 σ H1 Q I1 q1
  | false => exact ⟨H1, I1, q1⟩
theorem pw_or (ha : PT X a tA) (hb : PW X (.BoolOp .Or (b :: rest) pos) tB') : PW X (.BoolOp .Or (a :: b :: rest) pos) (tOr tA tB') := by
  intro wh pins s σ H Q I h
  refine isTrue_or (thn (ha pins s σ H _ I h) fun c s1 ⟨H1, I1, q1⟩ => ?_)
  cases c with
  | true => exact ⟨H1, I1, q1⟩
  | false => exact hb wh pins s1 σ H1 Q I1 q1
theorem pt_not (ha : PT X a tA) : PT X (.UnaryOp .Not a pos) (tNot tA) := by
  intro pins s σ H Q I h
  exact isTrue_not (ha pins s σ H (fun c H1 => Q (!c) H1) I h)
def tAndV (ta tb : TE) : TE := fun σ H Q => ta σ H fun x H1 => ∃ c, x = .bl c ∧ if c = true then tb σ H1 Q else Q (.bl false) H1
def tNotV (ta : TE) : TE := fun σ H Q => ta σ H fun x H1 => ∃ c, x = .bl c ∧ Q (.bl (!c)) H1
theorem pe_one {op} {t : TE} (h : PE X a t) : PE X (.BoolOp op [a] pos) t := fun pins s σ H Q I hw => BoolOp_one (h pins s σ H Q I hw)
theorem pe_and (ha : PE X a ta) (hb : PE X (.BoolOp .And (b :: rest) pos) tb) : PE X (.BoolOp .And (a :: b :: rest) pos) (tAndV ta tb) := by
  intro pins s σ H Q I h
  refine BoolOp_and (thn (ha pins s σ H _ I h) fun v s1 ⟨x, H1, I1, r1, q1⟩ => ?_)
  obtain ⟨c, rfl, q1⟩ := q1
  cases r1
  refine wpAny_truthy_bool ?_
  cases c with
  | true => exact hb pins s1 σ H1 Q I1 q1
  | false => exact ⟨.bl false, H1, I1, rfl, q1⟩
theorem pe_not (ha : PE X a ta) : PE X (.UnaryOp .Not a pos) (tNotV ta) := by
  intro pins s σ H Q I h
  refine UnaryOp_ (thn (ha pins s σ H _ I h) fun v s1 ⟨x, H1, I1, r1, q1⟩ => ?_)
  obtain ⟨c, rfl, q1⟩ := q1
  cases r1
  exact not_of (wpAny_truthy_bool ⟨.bl (!c), H1, I1, rfl, q1⟩)
end
end L2
namespace L2
open PySem PySem.Spec PyProof.Rows
def SqL (K : PySem.W.Frag) (H : Hp) (a : Addr) (xs : List V) : Prop :=
  Rd H a (.lst xs) ∨
    ∃ (o : Obj) (its : Array Value) (n : Nat), K.lookup a = some o ∧ o.cls = .type "list" ∧ o.dict = none ∧ o.data = .seq its n ∧ its.size ≤ sizeLine ∧ Vals xs its.toList
def SqT (K : PySem.W.Frag) (H : Hp) (a : Addr) (xs : List V) : Prop :=
  Rd H a (.tup xs) ∨
    ∃ (o : Obj) (its : Array Value) (n : Nat), K.lookup a = some o ∧ o.cls = .type "tuple" ∧ o.data = .seq its n ∧ its.size ≤ sizeLine ∧ Vals xs its.toList
def absV : Value → Option V
  | .none => some .non
  | .bool b => some (.bl b)
  | .int i _ => some (.int i)
  | .str x _ => some (.str x)
  | .bytes b _ => some (.byt b)
  | .float b _ => some (.flt b)
  | .ref a => some (.ref a)
  | .type n => some (.ty n)
  | _ => none
theorem RelV.abs {x : V} {u : Value} (r : RelV x u) : absV u = some x := by
  cases x with
  | non => cases r; rfl
  | bl _ => cases r; rfl
  | int _ => obtain ⟨t, rfl⟩ := r; rfl
  | str _ => obtain ⟨t, rfl⟩ := r; rfl
  | byt _ => obtain ⟨t, rfl⟩ := r; rfl
  | flt _ => obtain ⟨t, rfl⟩ := r; rfl
  | ref _ => cases r; rfl
  | ty _ => cases r; rfl
theorem RelV.inj {x y : V} {u : Value} (r : RelV x u) (q : RelV y u) : x = y := Option.some.inj (r.abs.symm.trans q.abs)
theorem Vals.inj : ∀ {xs ys : List V} {us : List Value}, Vals xs us → Vals ys us → xs = ys
  | _, _, _, .nil, .nil => rfl
  | _, _, _, .cons r t, .cons r' t' => by rw [r.inj r', Vals.inj t t']
section
variable {X : Cx} {pins : List (Addr × Obj)} {σ : St} {H : Hp} {s : Shared} {a : Addr} {xs ys : List V}
theorem SqL.of {K : PySem.W.Frag} (h : H a = some (.lst xs)) : SqL K H a xs := .inl (.inl h)
theorem SqT.of {K : PySem.W.Frag} (h : H a = some (.tup xs)) : SqT K H a xs := .inl (.inl h)
theorem Inv.list (I : Inv X pins σ H s) (h : SqL X.K H a xs) : ∃ its : List Value, Vals xs its ∧ PlainL s.heap a its.toArray ∧ xs.length ≤ sizeLine := by
  rcases h with h | ⟨o, its, n, hk, hc, hd, hs, hz, r⟩
  · obtain ⟨z, its, n, r, e⟩ := h.ok I.hok
    exact ⟨its, r, ⟨_, n, e, rfl, rfl, rfl⟩, z⟩
  · refine ⟨its.toList, r, ⟨o, n, I.kIn a o hk, hc, hd, by simpa using hs⟩, ?_⟩
    have e := r.length
    simp only [Array.length_toList] at e
    omega
theorem Inv.tuple (I : Inv X pins σ H s) (h : SqT X.K H a xs) : ∃ its : List Value, Vals xs its ∧ IsTup s.heap a its.toArray ∧ xs.length ≤ sizeLine := by
  rcases h with h | ⟨o, its, n, hk, hc, hs, hz, r⟩
  · obtain ⟨z, its, r, p⟩ := h.ok I.hok
    exact ⟨its, r, p, z⟩
  · refine ⟨its.toList, r, ⟨o, I.kIn a o hk, hc, n, by simpa using hs⟩, ?_⟩
    have e := r.length
    simp only [Array.length_toList] at e
    omega
theorem Inv.list_inj (I : Inv X pins σ H s) (h : SqL X.K H a xs) (h' : SqL X.K H a ys) : xs = ys := by
  obtain ⟨its, r, ⟨o, n, e, _, _, d⟩, _⟩ := I.list h
  obtain ⟨its', r', ⟨o', n', e', _, _, d'⟩, _⟩ := I.list h'
  rw [e] at e'; cases e'
  rw [d] at d'
  injection d' with d1 _
  have : its = its' := by simpa using congrArg Array.toList d1
  subst this
  exact r.inj r'
theorem Inv.tuple_inj (I : Inv X pins σ H s) (h : SqT X.K H a xs) (h' : SqT X.K H a ys) : xs = ys := by
  obtain ⟨its, r, ⟨o, e, _, n, d⟩, _⟩ := I.tuple h
  obtain ⟨its', r', ⟨o', e', _, n', d'⟩, _⟩ := I.tuple h'
  rw [e] at e'; cases e'
  rw [d] at d'
  injection d' with d1 _
  have : its = its' := by simpa using congrArg Array.toList d1
  subst this
  exact r.inj r'
end
abbrev Cx.wish (X : Cx) (E : Value → Shared → Prop) : Cx := { X with xe := E }
abbrev Cx.nox (X : Cx) : Cx := X.wish fun _ _ => False
theorem Cx.Ok.wish {X : Cx} (ok : X.Ok) (E : Value → Shared → Prop) : (X.wish E).Ok :=
  ⟨ok.mod, ok.kind, ok.glob, ok.blt, ok.above, ok.inj, ok.has, ok.cab, ok.hd, ok.frames, ok.stk, ok.exf, ok.bs, ok.bsz, ok.noex, ok.exfs, ok.funs, ok.frf⟩
theorem Cx.Ok.unwish {X : Cx} {E : Value → Shared → Prop} (ok : (X.wish E).Ok) : X.Ok :=
  ⟨ok.mod, ok.kind, ok.glob, ok.blt, ok.above, ok.inj, ok.has, ok.cab, ok.hd, ok.frames, ok.stk, ok.exf, ok.bs, ok.bsz, ok.noex, ok.exfs, ok.funs, ok.frf⟩
section
variable {X : Cx} {pins : List (Addr × Obj)} {σ : St} {H : Hp} {s : Shared} {E : Value → Shared → Prop}
theorem Inv.wish (I : Inv X pins σ H s) (E : Value → Shared → Prop) : Inv (X.wish E) pins σ H s := ⟨I.ok.wish E, I.os, I.bare, I.base, I.loc, I.cell, I.free, I.freeC, I.pin, I.hok, I.len⟩
theorem Inv.unwish (I : Inv (X.wish E) pins σ H s) : Inv X pins σ H s := ⟨I.ok.unwish, I.os, I.bare, I.base, I.loc, I.cell, I.free, I.freeC, I.pin, I.hok, I.len⟩
theorem SP.unwish {D : Ends} {f : Flow} {s' : Shared} (h : SP (X.wish E) pins D f s') : SP X pins D f s' := by
  cases f with
  | next => obtain ⟨σ', H', I, q⟩ := h; exact ⟨σ', H', I.unwish, q⟩
  | brk => obtain ⟨σ', H', I, q⟩ := h; exact ⟨σ', H', I.unwish, q⟩
  | cont => obtain ⟨σ', H', I, q⟩ := h; exact ⟨σ', H', I.unwish, q⟩
  | ret u => obtain ⟨v, σ', H', I, r, q⟩ := h; exact ⟨v, σ', H', I.unwish, r, q⟩
theorem PSs.nox {st : List Stmt} {t : TS} (h : PSs X.nox st t) : PSs X st t := fun pins s σ H D I hw =>
  wpAny_mono (h pins s σ H D (I.wish _) hw) (fun _ _ q => q.unwish) fun _ _ z => False.elim z
end
section
variable {X : Cx} {st : Stmt} {rest : List Stmt} {t u : TS} {e : Expr} {te : TE} {pos : Pos}
def tNext : TS := fun D σ H => D.nx σ H
def tSeq (t u : TS) : TS := fun D σ H => t { D with nx := u D } σ H
theorem pss_nil : PSs X [] tNext := fun _ _ σ H _ I h => wpAny_execs_nil ⟨σ, H, I, h⟩
theorem pss_cons (h1 : PS X st t) (h2 : PSs X rest u) : PSs X (st :: rest) (tSeq t u) := by
  intro pins s σ H D I h
  refine wpAny_execs_cons (thn (h1 pins s σ H { D with nx := u D } I h) fun f s1 q => ?_)
  cases f with
  | next =>
    obtain ⟨σ', H', I', q⟩ := q
    exact h2 pins s1 σ' H' D I' q
  | ret v => exact q
  | brk => exact q
  | cont => exact q
theorem pss_one (h1 : PS X st t) : PSs X [st] t := by
  intro pins s σ H D I h
  refine wpAny_execs_cons (thn (h1 pins s σ H D I h) fun f s1 q => ?_)
  cases f with
  | next => exact wpAny_execs_nil q
  | ret v => exact q
  | brk => exact q
  | cont => exact q
theorem Inv.quiet {pins : List (Addr × Obj)} {σ : St} {H : Hp} {s : Shared} (I : Inv X pins σ H s) : interactive X.env = false := by simp [interactive, I.ok.kind]
def tDrop (te : TE) : TS := fun D σ H => te σ H fun _ H1 => D.nx σ H1
theorem ps_expr (he : PE X e te) (hs : swapsWith e none pos.line X.env = pure false := by rfl) : PS X (.Expr e pos) (tDrop te) := by
  intro pins s σ H D I h
  exact wpAny_Expr_any (thn (he pins s σ H _ I h) fun v s1 ⟨x, H1, I1, r1, q1⟩ => ⟨σ, H1, I1, q1⟩) I.quiet hs
def tRet (te : TE) : TS := fun D σ H => te σ H D.rt
theorem ps_ret (he : PE X e te) : PS X (.Return (some e) pos) (tRet te) := by
  intro pins s σ H D I h
  exact wpAny_Return_some (thn (he pins s σ H _ I h) fun v s1 ⟨x, H1, I1, r1, q1⟩ => ⟨x, σ, H1, I1, r1, q1⟩)
def tIfS (c : TT) (t u : TS) : TS := fun D σ H => c σ H fun b H1 => if b = true then t D σ H1 else u D σ H1
theorem ps_if {c : Expr} {a b : List Stmt} {tc : TT} (hc : PT X c tc) (ha : PSs X a t) (hb : PSs X b u) : PS X (.If c a b pos) (tIfS tc t u) := by
  intro pins s σ H D I h
  refine wpAny_If (thn (hc pins s σ H _ I h) fun d s1 ⟨H1, I1, q1⟩ => ?_)
  cases d with
  | true => exact ha pins s1 σ H1 D I1 q1
  | false => exact hb pins s1 σ H1 D I1 q1
end
abbrev TG := V → St → Hp → (St → Hp → Prop) → Prop
abbrev TGs := List V → St → Hp → (St → Hp → Prop) → Prop
def PG (X : Cx) (target : Expr) (t : TG) : Prop :=
  ∀ (pins : List (Addr × Obj)) (s : Shared) (σ : St) (H : Hp) (v : V) (u : Value) (Q : St → Hp → Prop), Inv X pins σ H s → RelV v u → t v σ H Q →
    wpAny (model X.prog X.w) X.A (assign target X.env u) (fun _ s' => ∃ σ' H', Inv X pins σ' H' s' ∧ Q σ' H') X.xe s
def PGs (X : Cx) (ts : List Expr) (t : TGs) : Prop :=
  ∀ (pins : List (Addr × Obj)) (s : Shared) (σ : St) (H : Hp) (vs : List V) (us : List Value) (Q : St → Hp → Prop), Inv X pins σ H s → Vals vs us → t vs σ H Q →
    wpAny (model X.prog X.w) X.A (assignInOrder ((assignEach ts X.env).map (·.2)) us) (fun _ s' => ∃ σ' H', Inv X pins σ' H' s' ∧ Q σ' H') X.xe s
abbrev TSet := V → V → V → Hp → (Hp → Prop) → Prop
def PSet (X : Cx) (t : TSet) : Prop :=
  ∀ (pins : List (Addr × Obj)) (s : Shared) (σ : St) (H : Hp) (o i v : V) (ov iv u : Value) (Q : Hp → Prop), Inv X pins σ H s → RelV o ov → RelV i iv → RelV v u → t o i v H Q →
    wpAny (model X.prog X.w) X.A (setItem ov iv u) (fun _ s' => ∃ H', Inv X pins σ H' s' ∧ Q H') X.xe s
abbrev TIp := V → V → Hp → VK → Prop
def PIp (X : Cx) (op : Operator) (t : TIp) : Prop :=
  ∀ (pins : List (Addr × Obj)) (s : Shared) (σ : St) (H : Hp) (x y : V) (v u : Value) (Q : VK), Inv X pins σ H s → RelV x v → RelV y u → t x y H Q →
    wpAny (model X.prog X.w) X.A (inplaceOp op v u) (EP X pins σ Q) X.xe s
section
variable {X : Cx} {pos : Pos}
def gName (i : Nat) : TG := fun v σ H Q => Q (σ.set i (some v)) H
theorem pg_name {i : Nat} {x : Str} (hN : X.N.Nodup) (hi : X.N[i]? = some x) (hx : Loc X.env.scope x) (hf : X.fn x = true ∨ X.env.scope.names.lookup x = some .local := by first | exact .inl rfl | exact .inr rfl | assumption) : PG X (.Name x pos) (gName i) := by
  intro pins s σ H v u Q I r h
  exact wpAny_assign_Name (store_ok I hN hi hx r (fun s' I' => ⟨_, H, I', h⟩) hf)
def gNil : TGs := fun vs σ H Q => vs = [] ∧ Q σ H
def gCons (t : TG) (u : TGs) : TGs := fun vs σ H Q => ∃ v r, vs = v :: r ∧ t v σ H fun σ' H' => u r σ' H' Q
theorem pgs_nil : PGs X [] gNil := by
  intro pins s σ H vs us Q I r h
  obtain ⟨e, h⟩ := h
  subst e
  cases r
  exact assignInOrder_nil ⟨σ, H, I, h⟩
theorem pgs_cons {e : Expr} {es : List Expr} {t : TG} {u : TGs} (h1 : PG X e t) (h2 : PGs X es u)
    (hs : (assignEach (e :: es) X.env).map (·.2) = assign e X.env :: (assignEach es X.env).map (·.2) := by rfl) : PGs X (e :: es) (gCons t u) := by
  intro pins s σ H vs us Q I r h
  obtain ⟨v, vr, e1, h⟩ := h
  subst e1
  cases r with
  | cons r rr =>
    rw [hs]
    refine assignInOrder_cons (thn (h1 pins s σ H _ _ _ I r h) fun _ s1 ⟨σ1, H1, I1, q1⟩ => ?_)
    exact h2 pins s1 σ1 H1 _ _ Q I1 rr q1
def gTup (K : PySem.W.Frag) (n : Nat) (t : TGs) : TG := fun v σ H Q => ∃ a xs, v = .ref a ∧ SqT K H a xs ∧ xs.length = n ∧ t xs σ H Q
theorem pg_tup {es : List Expr} {k : Nat} {t : TGs} {n : Nat} (hc : X.calm = true) (h : PGs X es t)
    (hn : (assignEach es X.env).length = n := by rfl) (hst : (assignEach es X.env).findIdx? (·.1) = none := by rfl) : PG X (.Tuple es k pos) (gTup X.K n t) := by
  intro pins s σ H v u Q I r hw
  obtain ⟨a, xs, e1, hq, hl, hw⟩ := hw
  subst e1
  cases r
  obtain ⟨its, rv, ht, hz⟩ := I.tuple hq
  refine assign_Tuple_tuple (I.ok.hd hc) ht (by simp [hn, ← hl, rv.length]) hst fun h' hx => ?_
  have I1 : Inv X pins σ H { s with heap := h' } := I.kept (t' := s.toks) fun b o e => hx b o (Nat.ne_of_lt (Heap.lt_size e)) e
  exact h pins _ σ H xs _ Q I1 (by simpa using rv) hw
def gSub (to ti : TE) (t : TSet) : TG := fun v σ H Q => to σ H fun o H1 => ti σ H1 fun i H2 => t o i v H2 fun H3 => Q σ H3
theorem pg_sub {o i : Expr} {to ti : TE} {t : TSet} (ho : PE X o to) (hi : PE X i ti) (hs : PSet X t)
    (ha : ∀ v, assign (.Subscript o i pos) X.env v = (do
      let ov ← holding [v] (eval o X.env)
      let iv ← holding [v, ov] (eval i X.env)
      standAt pos
      holding [v, ov, iv] (setItem ov iv v)
      release [v, ov, iv] []) := by intro _; rfl) : PG X (.Subscript o i pos) (gSub to ti t) := by
  intro pins s σ H v u Q I r h
  rw [ha]
  refine wpAny_bind (wpAny_holding (thn (ho pins s σ H _ I h) fun ov s1 ⟨x, H1, I1, r1, q1⟩ => ?_))
  refine wpAny_bind (wpAny_holding (thn (hi pins s1 σ H1 _ I1 q1) fun iv s2 ⟨y, H2, I2, r2, q2⟩ => ?_))
  refine wpAny_bind (wpAny_standAt (wpAny_bind (wpAny_holding (thn (hs pins s2 σ H2 x y v ov iv u _ I2 r1 r2 r q2) fun _ s3 ⟨H3, I3, q3⟩ => ?_))))
  exact wpAny_release ⟨σ, H3, I3, q3⟩
def tAsg (te : TE) (g : TG) : TS := fun D σ H => te σ H fun x H1 => g x σ H1 D.nx
theorem ps_asg {tg e : Expr} {te : TE} {g : TG} (he : PE X e te) (hg : PG X tg g) (hs : swapsWithSole [tg] e pos.line X.env = pure false := by rfl) (hw : swappedStores [tg] e X.env = pure none := by rfl)
    (h1 : (assignEach [tg] X.env).map (·.2) = [assign tg X.env] := by rfl) : PS X (.Assign [tg] e pos) (tAsg te g) := by
  intro pins s σ H D I h
  refine wpAny_Assign_stores (thn (he pins s σ H _ I h) fun v s1 ⟨x, H1, I1, r1, q1⟩ => ?_) hs hw
  rw [h1]
  exact thn (hg pins s1 σ H1 x v _ I1 r1 q1) fun _ s2 q => q
theorem ps_set {i : Nat} {x : Str} {e : Expr} {te : TE} {pos' : Pos} (hN : X.N.Nodup) (hi : X.N[i]? = some x) (hx : Loc X.env.scope x) (he : PE X e te) (hs : swapsWith e (some (.Name x pos')) pos.line X.env = pure false := by rfl) (hf : X.fn x = true ∨ X.env.scope.names.lookup x = some .local := by first | exact .inl rfl | exact .inr rfl | assumption) :
    PS X (.Assign [.Name x pos'] e pos) (tAsg te (gName i)) := by
  intro pins s σ H D I h
  refine wpAny_Assign_Name (thn (he pins s σ H _ I h) fun v s1 ⟨y, H1, I1, r1, q1⟩ => ?_) hs
  exact store_ok I1 hN hi hx r1 (fun s2 I2 => ⟨_, H1, I2, q1⟩) hf
def tAug (i : Nat) (te : TE) (ti : TIp) : TS := fun D σ H => ∃ x, σ[i]? = some (some x) ∧ te σ H fun y H1 => ti x y H1 fun z H2 => D.nx (σ.set i (some z)) H2
theorem ps_aug {i : Nat} {x : Str} {e : Expr} {te : TE} {op : Operator} {ti : TIp} {pos' : Pos} (hN : X.N.Nodup) (hi : X.N[i]? = some x) (hx : Loc X.env.scope x) (he : PE X e te) (ho : PIp X op ti) (hf : X.fn x = true ∨ X.env.scope.names.lookup x = some .local := by first | exact .inl rfl | exact .inr rfl | assumption) :
    PS X (.AugAssign (.Name x pos') op e pos) (tAug i te ti) := by
  intro pins s σ H D I h
  obtain ⟨v, e1, h⟩ := h
  obtain ⟨m, hn, hl⟩ := I.loc
  have vis : Vis X.env.scope x := by rcases hx with k | k; exact .inl k; exact .inr (.inl k)
  obtain ⟨u, r, l⟩ := hl i x v hi e1 vis
  refine wpAny_AugAssign_Name ?_
  have go : wpAny (model X.prog X.w) X.A (eval e X.env) (fun w s₂ => wpAny (model X.prog X.w) X.A (inplaceOp op u w) (fun r s₃ => wpAny (model X.prog X.w) X.A (storeName X.env x r) (fun _ => SP X pins D .next) X.xe s₃) X.xe s₂) X.xe s := by
    refine thn (he pins s σ H _ I h) fun w s1 ⟨y, H1, I1, r1, q1⟩ => ?_
    refine thn (ho pins s1 σ H1 v y u w _ I1 r r1 q1) fun z s2 ⟨zv, H2, I2, r2, q2⟩ => ?_
    exact store_ok I2 hN hi hx r2 (fun s3 I3 => ⟨_, H2, I3, q2⟩) hf
  rcases l with ⟨hk, hm⟩ | ⟨hk, c, hc, hcell⟩
  · exact wpAny_loadName_local I.ok.kind hk hn hm go
  · rcases hk with hk | hk
    · exact wpAny_loadName_cell I.ok.kind hk hc hcell go
    · rcases hx with k | k
      · have : X.env.scope.names.lookup x = some .free := hk
        rw [k] at this; cases this
      · have : X.env.scope.names.lookup x = some .free := hk
        rw [k] at this; cases this
def ipI (f : Int → Int → Int) : TIp := fun x y H Q => ∃ i j, x = .int i ∧ y = .int j ∧ Q (.int (f i j)) H
theorem ip_add : PIp X .Add (ipI fun i j => i + j) := by
  intro pins s σ H x y v u Q I r1 r2 h
  obtain ⟨i, j, e1, e2, q⟩ := h
  subst e1; subst e2
  obtain ⟨t, rfl⟩ := r1
  obtain ⟨t', rfl⟩ := r2
  exact iadd_int ⟨.int _, H, I.tok _, ⟨_, rfl⟩, q⟩
end
section
variable {X : Cx} {pos : Pos}
def tWhile (c : TT) (tb : TS) : TS := fun D σ H => ∃ W : Nat → St → Hp → Prop, (∃ m, W m σ H) ∧ ∀ m σ H, W m σ H →
  c σ H fun b H1 => if b = true then ∃ N : St → Hp → Prop, (∀ σ' H', N σ' H' → ∃ m', m' < m ∧ W m' σ' H') ∧ tb { D with nx := N, ct := N, bk := D.nx } σ H1 else D.nx σ H1
theorem ps_while {c : Expr} {body : List Stmt} {tc : TT} {tb : TS} (hp : PassesOwn (model X.prog X.w) X.A X.env X.xe) (hc : PT X c tc) (hb : PSs X body tb) : PS X (.While c body [] pos) (tWhile tc tb) := by
  intro pins s σ H D I h
  obtain ⟨W, ⟨m0, w0⟩, turn⟩ := h
  refine wpAny_While (codeAny_whileLoop (fun n s' => ∃ σ' H', Inv X pins σ' H' s' ∧ W n σ' H') ?_ m0 ⟨σ, H, I, w0⟩)
  rintro n s1 ⟨σ1, H1, I1, w1⟩
  refine wpAny_passesOwn hp (thn (hc pins s1 σ1 H1 _ I1 (turn n σ1 H1 w1)) fun b s2 ⟨H2, I2, q2⟩ => ?_)
  cases b with
  | true =>
    obtain ⟨N, hN, q2⟩ := q2
    rw [if_pos rfl]
    refine wpAny_passesOwn hp (thn (hb pins s2 σ1 H2 _ I2 q2) fun f s3 q3 => ?_)
    cases f with
    | next =>
      obtain ⟨σ3, H3, I3, n3⟩ := q3
      obtain ⟨m', hm, w3⟩ := hN σ3 H3 n3
      exact ⟨m', hm, σ3, H3, I3, w3⟩
    | cont =>
      obtain ⟨σ3, H3, I3, n3⟩ := q3
      obtain ⟨m', hm, w3⟩ := hN σ3 H3 n3
      exact ⟨m', hm, σ3, H3, I3, w3⟩
    | brk => exact q3
    | ret v => exact q3
  | false =>
    rw [if_neg Bool.false_ne_true]
    exact wpAny_execs_nil ⟨σ1, H2, I2, q2⟩
end
structure It where
  go : Nat → Hp → Prop
  yld : Nat → Hp → V → Hp → Prop
  stop : Nat → Hp → Prop
def FpOk (X : Cx) (pins : List (Addr × Obj)) (H : Hp) (b : Addr) : Prop :=
  H b = none ∧ b ≠ X.env.locals ∧ b ∉ X.fs ∧ (b ∈ X.ex ∨ X.s₀.heap.objs.size ≤ b) ∧ (∀ x c, X.env.cells.lookup x = some c → c ≠ b) ∧ ∀ p ∈ X.pn ++ pins, p.1 ≠ b
theorem Inv.fpOk {X : Cx} {pins : List (Addr × Obj)} {σ : St} {H H' : Hp} {s : Shared} {b : Addr} (I : Inv X pins σ H s) (hb : s.heap.objs.size ≤ b) (hn : H' b = none) : FpOk X pins H' b := by
  refine ⟨hn, Nat.ne_of_gt (Nat.lt_of_lt_of_le I.lt hb), I.nofs hb, .inr (Nat.le_trans I.sz hb), fun x c e z => ?_, fun p hp z => ?_⟩
  · obtain ⟨v, q⟩ := I.cell x c e
    exact absurd (Nat.lt_of_lt_of_le q.lt (by rw [z]; exact hb)) (Nat.lt_irrefl _)
  · exact absurd (Nat.lt_of_lt_of_le (Heap.lt_size (I.pin p hp).1) (by rw [z]; exact hb)) (Nat.lt_irrefl _)
structure Turn (P : Program) (w : World) (K : PySem.W.Frag) (tg : Expr) (J : It) (fp : List Addr) (it : Addr) (tn : Nat → Heap → Prop) : Prop where
  mem : it ∈ fp
  obj : ∀ i h, tn i h → ∀ b ∈ fp, ∃ o, h.get? b = some o ∧ ∀ v, o.data ≠ .cell v
  keep : ∀ i h h', tn i h → (∀ b ∈ fp, ∀ o, h.get? b = some o → h'.get? b = some o) → tn i h'
  item : ∀ (X : Cx), X.prog = P → X.w = w → X.K = K → X.calm = true → ∀ (i : Nat) (pins : List (Addr × Obj)) (s : Shared) (σ : St) (H : Hp) (E : Value → Shared → Prop), Inv X pins σ H s → (∀ b ∈ fp, FpOk X pins H b) → tn i s.heap → J.go i H →
    wpAny (model P w) X.A (pyNext (.ref it)) (fun r s1 => ∃ u, r = some u ∧
      wpAny (model P w) X.A (letOwnedTupleGo tg (.ref it) u) (fun _ s2 => ∃ x H', Inv X pins σ H' s2 ∧ RelV x u ∧ J.yld i H x H' ∧ tn (i + 1) s2.heap ∧ ∀ b ∈ fp, H' b = none) E s1) E s
  done : ∀ (X : Cx), X.prog = P → X.w = w → X.K = K → X.calm = true → ∀ (i : Nat) (pins : List (Addr × Obj)) (s : Shared) (σ : St) (H : Hp) (E : Value → Shared → Prop), Inv X pins σ H s → (∀ b ∈ fp, FpOk X pins H b) → tn i s.heap → J.stop i H →
    wpAny (model P w) X.A (pyNext (.ref it)) (fun r s1 => r = none ∧ Inv X pins σ H s1) E s
  self : ∀ (A : Around) (i : Nat) (s : Shared) (Q : Value → Shared → Prop) (E : Value → Shared → Prop), tn i s.heap → Q (.ref it) s → wpAny (model P w) A (pyIter (.ref it)) Q E s
abbrev TI := St → Hp → (It → Hp → Prop) → Prop
def PIE (X : Cx) (pins : List (Addr × Obj)) (σ : St) (tg : Expr) (R : It → Hp → Prop) (itv : Value) (s2 : Shared) : Prop :=
  ∃ (it : Addr) (fp : List Addr) (tn : Nat → Heap → Prop) (J : It) (H' : Hp), itv = .ref it ∧ Inv X pins σ H' s2 ∧ Turn X.prog X.w X.K tg J fp it tn ∧ tn 0 s2.heap ∧ (∀ b ∈ fp, FpOk X pins H' b) ∧ R J H'
def PI (X : Cx) (tg iter : Expr) (wi : TI) : Prop :=
  ∀ (pins : List (Addr × Obj)) (s : Shared) (σ : St) (H : Hp) (R : It → Hp → Prop), Inv X pins σ H s → wi σ H R →
    wpAny (model X.prog X.w) X.A (eval iter X.env) (fun v s1 => wpAny (model X.prog X.w) X.A (pyIter v) (PIE X pins σ tg R) X.xe s1) X.xe s
theorem go_of {M : Model} {A : Around} {E : Value → Shared → Prop} {s : Shared} {tg : Expr} {it : Addr} {u : Value} {o : Obj} {n : String} {vs : Array Value} {Q : Unit → Shared → Prop} (ho : s.heap.get? it = some o) (hc : o.cls = .type n) (hd : o.data = .fields vs)
    (hn : ["enumerate", "zip", "dict_itemiterator", "dict_reverseitemiterator", "odict_iterator", "itertools.zip_longest", "itertools.pairwise"].contains n = false) (hQ : Q () s) : wpAny M A (letOwnedTupleGo tg (.ref it) u) Q E s := by
  unfold letOwnedTupleGo
  cases tg <;> first
    | exact wpAny_pure hQ
    | (cases u <;> first
        | exact wpAny_pure hQ
        | (refine wpAny_bind (wpAny_load ho ?_)
           rw [hc, hd]
           show wpAny M A (if (["enumerate", "zip", "dict_itemiterator", "dict_reverseitemiterator", "odict_iterator", "itertools.zip_longest", "itertools.pairwise"].contains n && vs[0]? == some (rawInt _)) = true then _ else _) Q E s
           rw [if_neg (by intro h; rw [hn, Bool.false_and] at h; cases h)]
           exact wpAny_pure hQ))
def Itl (K : PySem.W.Frag) (a : Addr) : It :=
  ⟨fun i H => ∃ xs x, SqL K H a xs ∧ xs[i]? = some x, fun i H x H' => H' = H ∧ ∀ xs, SqL K H a xs → xs[i]? = some x, fun i H => ∃ xs, SqL K H a xs ∧ xs.length ≤ i⟩
def Itt (K : PySem.W.Frag) (a : Addr) : It :=
  ⟨fun i H => ∃ xs x, SqT K H a xs ∧ xs[i]? = some x, fun i H x H' => H' = H ∧ ∀ xs, SqT K H a xs → xs[i]? = some x, fun i H => ∃ xs, SqT K H a xs ∧ xs.length ≤ i⟩
def Itr (lo : Int) (n : Nat) : It := ⟨fun i _ => i < n, fun i H x H' => H' = H ∧ x = .int (lo + i), fun i _ => n ≤ i⟩
theorem turn_list {P : Program} {w : World} {K : PySem.W.Frag} {tg : Expr} (a it : Addr) : Turn P w K tg (Itl K a) [it] it (fun i h => h.IsListIter it a i) where
  mem := by simp
  obj := fun i h st b hb => by
    have e : b = it := by simpa using hb
    subst e
    obtain ⟨o, e, c, d⟩ := st
    exact ⟨o, e, fun v z => by rw [d] at z; cases z⟩
  keep := fun i h h' st k => st.at fun o e => k it (by simp) o e
  item := by
    intro X hP hw hK hc i pins s σ H E I hf st hg
    subst hP hw hK
    obtain ⟨xs, x, hq, hx⟩ := hg
    obtain ⟨its, rv, p, hz⟩ := I.list hq
    obtain ⟨u, hu, ru⟩ := rv.get hx
    obtain ⟨f0, f1, f2, f3, f4, f5⟩ := hf it (by simp)
    refine wpAny_pyNext_list_item st p.isList (x := u) (by simpa using hu) fun h' st' sb => ?_
    have I1 : Inv X pins σ H { s with heap := h' } := I.turned (t' := s.toks) (fun b o hb e => (sb.2 b hb).trans e) f0 f1 f3 f4 f5
    obtain ⟨o, e, c, d⟩ := id st'
    exact ⟨u, rfl, go_of (s := { s with heap := h' }) e c d (by decide) ⟨x, H, I1, ru, ⟨rfl, fun ys hy => by rw [I.list_inj hy hq]; exact hx⟩, st', fun b hb => (hf b hb).1⟩⟩
  done := by
    intro X hP hw hK hc i pins s σ H E I hf st hg
    subst hP hw hK
    obtain ⟨xs, hq, hx⟩ := hg
    obtain ⟨its, rv, p, hz⟩ := I.list hq
    obtain ⟨f0, f1, f2, f3, f4, f5⟩ := hf it (by simp)
    have hl := rv.length
    exact wpAny_pyNext_list_end (I.ok.hd hc) st p.isList (by simp; omega) fun h' eb => ⟨rfl, I.turned (t' := s.toks) (fun b o hb e => eb b o hb e) f0 f1 f3 f4 f5⟩
  self := fun _ _ _ _ _ st h => wpAny_pyIter_listiter st h
theorem turn_tuple {P : Program} {w : World} {K : PySem.W.Frag} {tg : Expr} (a it : Addr) : Turn P w K tg (Itt K a) [it] it (fun i h => h.IsTupleIter it a i) where
  mem := by simp
  obj := fun i h st b hb => by
    have e : b = it := by simpa using hb
    subst e
    obtain ⟨o, e, c, d⟩ := st
    exact ⟨o, e, fun v z => by rw [d] at z; cases z⟩
  keep := fun i h h' st k => st.at fun o e => k it (by simp) o e
  item := by
    intro X hP hw hK hc i pins s σ H E I hf st hg
    subst hP hw hK
    obtain ⟨xs, x, hq, hx⟩ := hg
    obtain ⟨its, rv, p, hz⟩ := I.tuple hq
    obtain ⟨u, hu, ru⟩ := rv.get hx
    obtain ⟨f0, f1, f2, f3, f4, f5⟩ := hf it (by simp)
    refine wpAny_pyNext_tuple_item st (show s.heap.IsTuple a its.toArray from p) (x := u) (by simpa using hu) fun h' st' sb => ?_
    have I1 : Inv X pins σ H { s with heap := h' } := I.turned (t' := s.toks) (fun b o hb e => (sb.2 b hb).trans e) f0 f1 f3 f4 f5
    obtain ⟨o, e, c, d⟩ := id st'
    exact ⟨u, rfl, go_of (s := { s with heap := h' }) e c d (by decide) ⟨x, H, I1, ru, ⟨rfl, fun ys hy => by rw [I.tuple_inj hy hq]; exact hx⟩, st', fun b hb => (hf b hb).1⟩⟩
  done := by
    intro X hP hw hK hc i pins s σ H E I hf st hg
    subst hP hw hK
    obtain ⟨xs, hq, hx⟩ := hg
    obtain ⟨its, rv, p, hz⟩ := I.tuple hq
    obtain ⟨f0, f1, f2, f3, f4, f5⟩ := hf it (by simp)
    have hl := rv.length
    exact wpAny_pyNext_tuple_end (I.ok.hd hc) st (show s.heap.IsTuple a its.toArray from p) (by simp; omega) fun h' eb => ⟨rfl, I.turned (t' := s.toks) (fun b o hb e => eb b o hb e) f0 f1 f3 f4 f5⟩
  self := fun _ _ _ _ _ st h => wpAny_pyIter_tupleiter st h
theorem turn_range {P : Program} {w : World} {K : PySem.W.Frag} {tg : Expr} (it : Addr) (lo : Int) (n : Nat) : Turn P w K tg (Itr lo n) [it] it (fun i h => IsRangeIter h it (lo + (i : Nat) * 1) ((n : Int) - (i : Nat)) 1) where
  mem := by simp
  obj := fun i h st b hb => by
    have e : b = it := by simpa using hb
    subst e
    exact ⟨_, st, fun v z => by
      have z' : Data.fields _ = Data.cell v := z
      cases z'⟩
  keep := fun i h h' st k => k it (by simp) _ st
  item := by
    intro X hP hw hK hc i pins s σ H E I hf st hg
    subst hP hw hK
    obtain ⟨f0, f1, f2, f3, f4, f5⟩ := hf it (by simp)
    have W := Walks.range (prog := X.prog) (w := X.w) (I.ok.hd hc) it lo 1 n
    refine W.item i s _ _ hg st fun v h' tk hv st' kk => ?_
    obtain ⟨t, rfl⟩ := hv
    have I1 : Inv X pins σ H { s with heap := h', toks := tk } := I.turned (fun b o hb e => kk b o (by simpa using hb) e) f0 f1 f3 f4 f5
    refine ⟨_, rfl, go_of (s := { s with heap := h', toks := tk }) (n := "range_iterator") st' rfl rfl (by decide) ⟨.int (lo + i), H, I1, ⟨t, ?_⟩, ⟨rfl, rfl⟩, st', fun b hb => (hf b hb).1⟩⟩
    rw [Int.mul_one]
  done := by
    intro X hP hw hK hc i pins s σ H E I hf st hg
    subst hP hw hK
    obtain ⟨f0, f1, f2, f3, f4, f5⟩ := hf it (by simp)
    exact wpAny_pyNext_range_end (I.ok.hd hc) st (by have : n ≤ i := hg; omega) fun h' eb => ⟨rfl, I.turned (t' := s.toks) (fun b o hb e => eb b o hb e) f0 f1 f3 f4 f5⟩
  self := fun _ _ _ _ _ st h => wpAny_pyIter_rangeiter st h
end L2
namespace L2
open PySem PySem.Spec PyProof.Rows
section
variable {X : Cx} {tg : Expr}
def iList (K : PySem.W.Frag) (tl : TE) : TI := fun σ H R => tl σ H fun x H1 => ∃ a, x = .ref a ∧ (∃ xs, SqL K H1 a xs) ∧ R (Itl K a) H1
def iTup (K : PySem.W.Frag) (tl : TE) : TI := fun σ H R => tl σ H fun x H1 => ∃ a, x = .ref a ∧ (∃ xs, SqT K H1 a xs) ∧ R (Itt K a) H1
theorem pi_list {l : Expr} {tl : TE} (hl : PE X l tl) : PI X tg l (iList X.K tl) := by
  intro pins s σ H R I h
  refine thn (hl pins s σ H _ I h) fun v s1 ⟨x, H1, I1, r1, q1⟩ => ?_
  obtain ⟨a, e, ⟨xs, hq⟩, q⟩ := q1
  subst e
  cases r1
  obtain ⟨its, rv, p, hz⟩ := I1.list hq
  refine wpAny_pyIter_list p.isList ?_
  refine ⟨s1.heap.objs.size, [s1.heap.objs.size], _, _, H1, rfl, I1.kept (t' := s1.toks) fun b o e => Heap.get?_push_of_some _ e, turn_list a _, ⟨_, Heap.get?_push_size _ rfl, rfl, rfl⟩, fun b hb => ?_, q⟩
  have e : b = s1.heap.objs.size := by simpa using hb
  subst e
  exact I1.fpOk (Nat.le_refl _) (I1.hok.fresh (Nat.le_refl _))
theorem pi_tup {l : Expr} {tl : TE} (hl : PE X l tl) : PI X tg l (iTup X.K tl) := by
  intro pins s σ H R I h
  refine thn (hl pins s σ H _ I h) fun v s1 ⟨x, H1, I1, r1, q1⟩ => ?_
  obtain ⟨a, e, ⟨xs, hq⟩, q⟩ := q1
  subst e
  cases r1
  obtain ⟨its, rv, p, hz⟩ := I1.tuple hq
  refine wpAny_pyIter_tuple (show s1.heap.IsTuple a its.toArray from p) ?_
  refine ⟨s1.heap.objs.size, [s1.heap.objs.size], _, _, H1, rfl, I1.kept (t' := s1.toks) fun b o e => Heap.get?_push_of_some _ e, turn_tuple a _, ⟨_, Heap.get?_push_size _ rfl, rfl, rfl⟩, fun b hb => ?_, q⟩
  have e : b = s1.heap.objs.size := by simpa using hb
  subst e
  exact I1.fpOk (Nat.le_refl _) (I1.hok.fresh (Nat.le_refl _))
theorem range_it {pins : List (Addr × Obj)} {σ : St} {H : Hp} {s : Shared} {R : It → Hp → Prop} {E : Value → Shared → Prop} {lo hi : Int} {t u v : Tok} {tk : Nat} (I : Inv X pins σ H s) (h1 : -(2 ^ 62) ≤ lo) (h2 : lo < 2 ^ 62) (h3 : -(2 ^ 62) ≤ hi) (h4 : hi < 2 ^ 62)
    (q : R (Itr lo (hi - lo).toNat) H) : wpAny (model X.prog X.w) X.A (pyIter (.ref s.heap.objs.size)) (PIE X pins σ tg R) E { s with heap := s.heap.push { cls := .type "range", data := .fields #[.int lo t, .int hi u, .int 1 v] }, toks := tk } := by
  refine wpAny_pyIter_range (IsRange.new ..) (small_one h1 h2 h3 h4) ?_
  have I1 : Inv X pins σ H { s with heap := s.heap.push { cls := .type "range", data := .fields #[.int lo t, .int hi u, .int 1 v] }, toks := tk } := I.kept fun b o e => Heap.get?_push_of_some _ e
  refine ⟨(s.heap.push { cls := .type "range", data := .fields #[.int lo t, .int hi u, .int 1 v] }).objs.size, [(s.heap.push { cls := .type "range", data := .fields #[.int lo t, .int hi u, .int 1 v] }).objs.size], _, _, H, rfl,
    I1.kept (t' := tk) fun b o e => Heap.get?_push_of_some _ e, turn_range _ lo (hi - lo).toNat, ?_, fun b hb => ?_, q⟩
  · have e1 : lo + ((0 : Nat) : Int) * 1 = lo := by simp
    have e2 : (((hi - lo).toNat : Nat) : Int) - ((0 : Nat) : Int) = Builtin.Range.rangeSize lo hi 1 := by rw [rangeSize_one]; split <;> omega
    show IsRangeIter _ _ (lo + ((0 : Nat) : Int) * 1) ((((hi - lo).toNat : Nat) : Int) - ((0 : Nat) : Int)) 1
    rw [e1, e2]
    exact Heap.get?_push_size _ rfl
  · have e : b = (s.heap.push { cls := .type "range", data := .fields #[.int lo t, .int hi u, .int 1 v] }).objs.size := by simpa using hb
    subst e
    exact I1.fpOk (Nat.le_refl _) (I1.hok.fresh (Nat.le_refl _))
def iRng1 (ta : TA) : TI := fun σ H R => ta σ H fun vs H1 => ∃ j : Int, vs = [.int j] ∧ -(2 ^ 62) ≤ j ∧ j < 2 ^ 62 ∧ R (Itr 0 j.toNat) H1
def iRng2 (ta : TA) : TI := fun σ H R => ta σ H fun vs H1 => ∃ i j : Int, vs = [.int i, .int j] ∧ (-(2 ^ 62) ≤ i ∧ i < 2 ^ 62 ∧ -(2 ^ 62) ≤ j ∧ j < 2 ^ 62) ∧ R (Itr i (j - i).toNat) H1
theorem pi_range1 {a : Expr} {ta : TA} {p pos : Pos} (hg : Gl X "range") (hm : X.mg "range" = none) (ha : PA X [a] ta) (hs : starEach [a] X.env = [(false, eval a X.env)] := by rfl) : PI X tg (.Call (.Name "range" p) [a] [] pos) (iRng1 ta) := by
  intro pins s σ H R I h
  refine Call_ (ld_blt I hg hm boot_range (PyProof.Rows.callWith_type1 (thn (ha pos pins s σ H _ I h) fun us s1 ⟨vs, H1, I1, r1, q1⟩ => ?_) hs rfl))
  obtain ⟨j, e, q1, q2, q⟩ := q1
  subst e
  cases r1 with
  | cons r rr =>
    cases rr
    obtain ⟨t, rfl⟩ := r
    exact call_range_1 (range_it I1 (by omega) (by omega) q1 q2 (by simpa using q))
theorem pi_range2 {a b : Expr} {ta : TA} {p pos : Pos} (hg : Gl X "range") (hm : X.mg "range" = none) (ha : PA X [a, b] ta) (hs : starEach [a, b] X.env = [(false, eval a X.env), (false, eval b X.env)] := by rfl) (hs2 : starEach [b] X.env = [(false, eval b X.env)] := by rfl) :
    PI X tg (.Call (.Name "range" p) [a, b] [] pos) (iRng2 ta) := by
  intro pins s σ H R I h
  refine Call_ (ld_blt I hg hm boot_range (PyProof.Rows.callWith_type1 (thn (ha pos pins s σ H _ I h) fun us s1 ⟨vs, H1, I1, r1, q1⟩ => ?_) (by rw [hs, hs2]) (by rw [hs2]; rfl)))
  obtain ⟨i, j, e, ⟨q1, q2, q3, q4⟩, q⟩ := q1
  subst e
  cases r1 with
  | cons r rr =>
    cases rr with
    | cons r' rr =>
      cases rr
      obtain ⟨t, rfl⟩ := r
      obtain ⟨t', rfl⟩ := r'
      exact call_range_2 (range_it I1 q1 q2 q3 q4 q)
def tFor (wi : TI) (g : TG) (tb : TS) : TS := fun D σ H => wi σ H fun J H1 => ∃ W : Nat → Nat → St → Hp → Prop, (∃ m, W 0 m σ H1) ∧ ∀ i m σ H, W i m σ H →
  (J.stop i H ∧ D.nx σ H) ∨ (J.go i H ∧ ∃ N : St → Hp → Prop, (∀ σ' H', N σ' H' → ∃ m', m' < m ∧ W (i + 1) m' σ' H') ∧ ∀ x H', J.yld i H x H' → g x σ H' fun σ2 H2 => tb { D with nx := N, ct := N, bk := D.nx } σ2 H2)
def pinsAt (fp : List Addr) (h : Heap) : List (Addr × Obj) := fp.filterMap fun b => (h.get? b).map fun o => (b, o)
theorem mem_pinsAt {fp : List Addr} {h : Heap} {b : Addr} {o : Obj} (hb : b ∈ fp) (e : h.get? b = some o) : (b, o) ∈ pinsAt fp h := List.mem_filterMap.mpr ⟨b, hb, by rw [e]; rfl⟩
theorem of_pinsAt {fp : List Addr} {h : Heap} {p : Addr × Obj} (hp : p ∈ pinsAt fp h) : p.1 ∈ fp ∧ h.get? p.1 = some p.2 := by
  obtain ⟨b, hb, e⟩ := List.mem_filterMap.mp hp
  cases q : h.get? b with
  | none => rw [q] at e; cases e
  | some o =>
    rw [q] at e
    have e' : (b, o) = p := Option.some.inj e
    subst e'
    exact ⟨hb, q⟩
theorem Inv.pinned {pins : List (Addr × Obj)} {σ : St} {H : Hp} {s : Shared} {fp : List Addr} (I : Inv X pins σ H s) (hf : ∀ b ∈ fp, FpOk X pins H b) (ho : ∀ b ∈ fp, ∃ o, s.heap.get? b = some o ∧ ∀ v, o.data ≠ .cell v) : Inv X (pins ++ pinsAt fp s.heap) σ H s :=
  I.pins_of fun p hp => (List.mem_append.mp hp).elim (fun z => I.pin p (List.mem_append_right _ z)) fun z => by
    obtain ⟨hb, e⟩ := of_pinsAt z
    obtain ⟨f0, f1, f2, _⟩ := hf p.1 hb
    obtain ⟨o, e', d⟩ := ho p.1 hb
    rw [e] at e'; cases e'
    exact ⟨e, f0, f1, f2, d⟩
theorem Inv.unpinned {pins pl : List (Addr × Obj)} {σ : St} {H : Hp} {s : Shared} (I : Inv X (pins ++ pl) σ H s) : Inv X pins σ H s := I.pins_of fun p hp => I.pin p (List.mem_append_right _ (List.mem_append_left _ hp))
theorem ps_for {iter : Expr} {body : List Stmt} {wi : TI} {g : TG} {tb : TS} {pos : Pos} (hp : PassesOwn (model X.prog X.w) X.A X.env X.xe) (hc : X.calm = true) (hi : PI X tg iter wi) (hg : PG X tg g) (hb : PSs X body tb)
    (hs : ∀ x, foldedSetIterable iter X.env x = pure x := by intro _; rfl) : PS X (.For tg iter body [] pos) (tFor wi g tb) := by
  intro pins s σ H D I h
  refine wpAny_For (thn (hi pins s σ H _ I h) fun v s1 h1 => thn h1 fun itv s2 h2 => ?_) hs
  obtain ⟨it, fp, tn, J, H2, e, I2, T, st2, f2, W, ⟨m0, w0⟩, turn⟩ := h2
  subst e
  -- what stays true of the iterator's objects through the loop
  have stat : ∀ {H' : Hp}, (∀ b ∈ fp, H' b = none) → ∀ b ∈ fp, FpOk X pins H' b := fun hn b hb => ⟨hn b hb, (f2 b hb).2⟩
  refine codeAny_forLoop_any (fun n s' => ∃ i σ' H', Inv X pins σ' H' s' ∧ tn i s'.heap ∧ (∀ b ∈ fp, H' b = none) ∧ W i n σ' H') ?_ m0 ⟨0, σ, H2, I2, st2, fun b hb => (f2 b hb).1, w0⟩
  rintro n s3 ⟨i, σ3, H3, I3, st3, fr3, w3⟩
  rcases turn i n σ3 H3 w3 with ⟨stop, qn⟩ | ⟨go, N, hN, step⟩
  · refine wpAny_passesOwn hp (thn (T.done X rfl rfl rfl hc i pins s3 σ3 H3 X.xe I3 (stat fr3) st3 stop) fun r s4 ⟨hr, I4⟩ => ?_)
    subst hr
    exact wpAny_execs_nil ⟨σ3, H3, I4, qn⟩
  · refine wpAny_passesOwn hp (thn (T.item X rfl rfl rfl hc i pins s3 σ3 H3 X.xe I3 (stat fr3) st3 go) fun r s4 ⟨u, hr, h4⟩ => ?_)
    subst hr
    refine wpAny_passesOwn hp (thn h4 fun _ s5 ⟨x, H5, I5, r5, y5, st5, fr5⟩ => ?_)
    have I5' := I5.pinned (stat fr5) (T.obj _ _ st5)
    refine wpAny_passesOwn hp (thn (hg _ s5 σ3 H5 x u _ I5' r5 (step x H5 y5)) fun _ s6 ⟨σ6, H6, I6, q6⟩ => ?_)
    refine wpAny_passesOwn hp (thn (hb _ s6 σ6 H6 _ I6 q6) fun f s7 q7 => ?_)
    have again : ∀ {σ7 : St} {H7 : Hp}, Inv X (pins ++ pinsAt fp s5.heap) σ7 H7 s7 → N σ7 H7 → ∃ m, m < n ∧ ∃ i σ' H', Inv X pins σ' H' s7 ∧ tn i s7.heap ∧ (∀ b ∈ fp, H' b = none) ∧ W i m σ' H' := fun {σ7 H7} I7 n7 => by
      obtain ⟨m', hm, w7⟩ := hN σ7 H7 n7
      refine ⟨m', hm, i + 1, σ7, H7, I7.unpinned, T.keep _ _ _ st5 fun b hb o e => (I7.pin (b, o) (List.mem_append_right _ (List.mem_append_right _ (mem_pinsAt hb e)))).1, fun b hb => ?_, w7⟩
      obtain ⟨o, e, d⟩ := T.obj _ _ st5 b hb
      exact (I7.pin (b, o) (List.mem_append_right _ (List.mem_append_right _ (mem_pinsAt hb e)))).2.1
    cases f with
    | next => obtain ⟨σ7, H7, I7, n7⟩ := q7; exact again I7 n7
    | cont => obtain ⟨σ7, H7, I7, n7⟩ := q7; exact again I7 n7
    | brk => obtain ⟨σ7, H7, I7, q7⟩ := q7; exact ⟨σ7, H7, I7.unpinned, q7⟩
    | ret v => obtain ⟨x7, σ7, H7, I7, r7, q7⟩ := q7; exact ⟨x7, σ7, H7, I7.unpinned, r7, q7⟩
end
theorem for_list {K : PySem.W.Frag} {a : Addr} {xs : List V} {g : TG} {tb : TS} {D : Ends} {σ : St} {H : Hp} (Pv : Nat → St → Hp → Prop) (h0 : Pv 0 σ H) (hl : ∀ i σ H, i ≤ xs.length → Pv i σ H → SqL K H a xs)
    (hs : ∀ i x σ H, xs[i]? = some x → Pv i σ H → g x σ H fun σ2 H2 => tb { D with nx := Pv (i + 1), ct := Pv (i + 1), bk := D.nx } σ2 H2) (hd : ∀ σ H, Pv xs.length σ H → D.nx σ H) :
    ∃ W : Nat → Nat → St → Hp → Prop, (∃ m, W 0 m σ H) ∧ ∀ i m σ H, W i m σ H →
      ((Itl K a).stop i H ∧ D.nx σ H) ∨ ((Itl K a).go i H ∧ ∃ N : St → Hp → Prop, (∀ σ' H', N σ' H' → ∃ m', m' < m ∧ W (i + 1) m' σ' H') ∧ ∀ x H', (Itl K a).yld i H x H' → g x σ H' fun σ2 H2 => tb { D with nx := N, ct := N, bk := D.nx } σ2 H2) := by
  refine ⟨fun i m σ H => m = xs.length - i ∧ i ≤ xs.length ∧ Pv i σ H, ⟨xs.length, by simp, Nat.zero_le _, h0⟩, ?_⟩
  rintro i m σ H ⟨rfl, hi, p⟩
  have q := hl i σ H hi p
  by_cases hlt : i < xs.length
  · refine .inr ⟨⟨xs, xs[i], q, by simp [hlt]⟩, Pv (i + 1), fun σ' H' p' => ⟨xs.length - (i + 1), by omega, rfl, hlt, p'⟩, fun x H' y => ?_⟩
    obtain ⟨e, y⟩ := y
    subst e
    exact hs i x σ _ (y xs q) p
  · have e : i = xs.length := by omega
    subst e
    exact .inl ⟨⟨xs, q, Nat.le_refl _⟩, hd σ H p⟩
theorem for_range {lo : Int} {n : Nat} {g : TG} {tb : TS} {D : Ends} {σ : St} {H : Hp} (Pv : Nat → St → Hp → Prop) (h0 : Pv 0 σ H)
    (hs : ∀ i σ H, i < n → Pv i σ H → g (.int (lo + i)) σ H fun σ2 H2 => tb { D with nx := Pv (i + 1), ct := Pv (i + 1), bk := D.nx } σ2 H2) (hd : ∀ σ H, Pv n σ H → D.nx σ H) :
    ∃ W : Nat → Nat → St → Hp → Prop, (∃ m, W 0 m σ H) ∧ ∀ i m σ H, W i m σ H →
      ((Itr lo n).stop i H ∧ D.nx σ H) ∨ ((Itr lo n).go i H ∧ ∃ N : St → Hp → Prop, (∀ σ' H', N σ' H' → ∃ m', m' < m ∧ W (i + 1) m' σ' H') ∧ ∀ x H', (Itr lo n).yld i H x H' → g x σ H' fun σ2 H2 => tb { D with nx := N, ct := N, bk := D.nx } σ2 H2) := by
  refine ⟨fun i m σ H => m = n - i ∧ i ≤ n ∧ Pv i σ H, ⟨n, by simp, Nat.zero_le _, h0⟩, ?_⟩
  rintro i m σ H ⟨rfl, hi, p⟩
  by_cases hlt : i < n
  · refine .inr ⟨hlt, Pv (i + 1), fun σ' H' p' => ⟨n - (i + 1), by omega, rfl, hlt, p'⟩, fun x H' y => ?_⟩
    obtain ⟨e, y⟩ := y
    subst e y
    exact hs i σ _ hlt p
  · have e : i = n := by omega
    subst e
    exact .inl ⟨Nat.le_refl _, hd σ H p⟩
end L2
namespace L2
open PySem PySem.Spec PyProof.Rows
abbrev R2 := V → V → Hp → VK → Prop
def OpR (X : Cx) (f : Value → Value → Sem Value) (r : R2) : Prop :=
  ∀ (pins : List (Addr × Obj)) (s : Shared) (σ : St) (H : Hp) (x y : V) (v u : Value) (Q : VK), Inv X pins σ H s → RelV x v → RelV y u → r x y H Q →
    wpAny (model X.prog X.w) X.A (f v u) (EP X pins σ Q) X.xe s
def UnR (X : Cx) (f : Value → Sem Value) (r : V → Hp → VK → Prop) : Prop :=
  ∀ (pins : List (Addr × Obj)) (s : Shared) (σ : St) (H : Hp) (x : V) (v : Value) (Q : VK), Inv X pins σ H s → RelV x v → r x H Q →
    wpAny (model X.prog X.w) X.A (f v) (EP X pins σ Q) X.xe s
def CallR (X : Cx) (f : Value) (r : List V → Hp → VK → Prop) : Prop :=
  ∀ (pins : List (Addr × Obj)) (s : Shared) (σ : St) (H : Hp) (xs : List V) (us : List Value) (Q : VK), Inv X pins σ H s → Vals xs us → r xs H Q →
    wpAny (model X.prog X.w) X.A (call f us) (EP X pins σ Q) X.xe s
def TruR (X : Cx) (r : V → Hp → (Bool → Hp → Prop) → Prop) : Prop :=
  ∀ (pins : List (Addr × Obj)) (s : Shared) (σ : St) (H : Hp) (x : V) (v : Value) (Q : Bool → Hp → Prop), Inv X pins σ H s → RelV x v → r x H Q →
    wpAny (model X.prog X.w) X.A (truthy v) (TP X pins σ Q) X.xe s
def tOp (r : R2) (ta tb : TE) : TE := fun σ H Q => ta σ H fun x H1 => tb σ H1 fun y H2 => r x y H2 Q
def tUn (r : V → Hp → VK → Prop) (ta : TE) : TE := fun σ H Q => ta σ H fun x H1 => r x H1 Q
def rI (C : Int → Int → Prop) (g : Int → Int → V) : R2 := fun x y H Q => ∃ i j, x = .int i ∧ y = .int j ∧ C i j ∧ Q (g i j) H
def rI0 (g : Int → Int → V) : R2 := fun x y H Q => ∃ i j, x = .int i ∧ y = .int j ∧ Q (g i j) H
def rU (g : Int → V) : V → Hp → VK → Prop := fun x H Q => ∃ i, x = .int i ∧ Q (g i) H
section
variable {X : Cx} {a b c : Expr} {ta tb tc : TE} {pos : Pos}
theorem binT (ha : PE X a ta) (hb : PE X b tb) {pins : List (Addr × Obj)} {s : Shared} {σ : St} {H : Hp} {R : V → V → Hp → Prop} (I : Inv X pins σ H s)
    (h : ta σ H fun x H1 => tb σ H1 fun y H2 => R x y H2) {Q : Value → Shared → Prop} {f : Value → Value → Sem Value}
    (hf : ∀ v u s2 x y H2, Inv X pins σ H2 s2 → RelV x v → RelV y u → R x y H2 → wpAny (model X.prog X.w) X.A (f v u) Q X.xe s2) :
    wpAny (model X.prog X.w) X.A (eval a X.env) (fun v s₁ => wpAny (model X.prog X.w) X.A (eval b X.env) (fun u s₂ => wpAny (model X.prog X.w) X.A (f v u) Q X.xe s₂) X.xe s₁) X.xe s := by
  refine thn (ha pins s σ H _ I h) fun v s1 ⟨x, H1, I1, r1, q1⟩ => ?_
  refine thn (hb pins s1 σ H1 _ I1 q1) fun u s2 ⟨y, H2, I2, r2, q2⟩ => ?_
  exact hf v u s2 x y H2 I2 r1 r2 q2
theorem pe_op {op : Operator} {r : R2} (ho : OpR X (binaryOp op) r) (ha : PE X a ta) (hb : PE X b tb) : PE X (.BinOp a op b pos) (tOp r ta tb) := by
  intro pins s σ H Q I h
  exact wpAny_BinOp (binT ha hb I h fun v u s2 x y H2 I2 rx ry q => ho pins s2 σ H2 x y v u Q I2 rx ry q)
theorem pe_un {op : UnaryOp} {r : V → Hp → VK → Prop} (ho : UnR X (unaryOp op) r) (ha : PE X a ta) : PE X (.UnaryOp op a pos) (tUn r ta) := by
  intro pins s σ H Q I h
  exact UnaryOp_ (thn (ha pins s σ H _ I h) fun v s1 ⟨x, H1, I1, r1, q1⟩ => ho pins s1 σ H1 x v Q I1 r1 q1)
theorem opI {f : Value → Value → Sem Value} {C : Int → Int → Prop} {g : Int → Int → Int}
    (rule : ∀ (i j : Int) (t u : Tok) (s : Shared) (Q : Value → Shared → Prop) (E : Value → Shared → Prop), C i j → Q (.int (g i j) s.toks) { s with toks := s.toks + 1 } → wpAny (model X.prog X.w) X.A (f (.int i t) (.int j u)) Q E s) :
    OpR X f (rI C fun i j => .int (g i j)) := by
  intro pins s σ H x y v u Q I rx ry h
  obtain ⟨i, j, rfl, rfl, hc, q⟩ := h
  obtain ⟨t, rfl⟩ := rx
  obtain ⟨t', rfl⟩ := ry
  exact rule i j t t' s _ _ hc ⟨.int (g i j), H, I.tok _, ⟨_, rfl⟩, q⟩
theorem opI0 {f : Value → Value → Sem Value} {g : Int → Int → Int}
    (rule : ∀ (i j : Int) (t u : Tok) (s : Shared) (Q : Value → Shared → Prop) (E : Value → Shared → Prop), Q (.int (g i j) s.toks) { s with toks := s.toks + 1 } → wpAny (model X.prog X.w) X.A (f (.int i t) (.int j u)) Q E s) :
    OpR X f (rI0 fun i j => .int (g i j)) := by
  intro pins s σ H x y v u Q I rx ry h
  obtain ⟨i, j, rfl, rfl, q⟩ := h
  obtain ⟨t, rfl⟩ := rx
  obtain ⟨t', rfl⟩ := ry
  exact rule i j t t' s _ _ ⟨.int (g i j), H, I.tok _, ⟨_, rfl⟩, q⟩
theorem opB0 {f : Value → Value → Sem Value} {g : Int → Int → Bool}
    (rule : ∀ (i j : Int) (t u : Tok) (s : Shared) (Q : Value → Shared → Prop) (E : Value → Shared → Prop), Q (.bool (g i j)) s → wpAny (model X.prog X.w) X.A (f (.int i t) (.int j u)) Q E s) :
    OpR X f (rI0 fun i j => .bl (g i j)) := by
  intro pins s σ H x y v u Q I rx ry h
  obtain ⟨i, j, rfl, rfl, q⟩ := h
  obtain ⟨t, rfl⟩ := rx
  obtain ⟨t', rfl⟩ := ry
  exact rule i j t t' s _ _ ⟨.bl (g i j), H, I, rfl, q⟩
def CDiv (i j : Int) : Prop := 0 < j ∧ j < 1073741824
def CMul (i j : Int) : Prop := (-(2 ^ 64) < i ∧ i < 2 ^ 64) ∨ (-(2 ^ 64) < j ∧ j < 2 ^ 64)
theorem CMul.ok {i j : Int} (h : CMul i j) : IntMulOk i j := by
  rcases h with ⟨h1, h2⟩ | ⟨h1, h2⟩
  · exact .of_left (intBits_le_64 h1 h2)
  · exact .of_right (intBits_le_64 h1 h2)
theorem op_add : OpR X (binaryOp .Add) (rI0 fun i j => .int (i + j)) := opI0 fun _ _ _ _ _ _ _ q => add_int q
theorem op_sub : OpR X (binaryOp .Sub) (rI0 fun i j => .int (i - j)) := opI0 fun _ _ _ _ _ _ _ q => sub_int q
theorem op_mul : OpR X (binaryOp .Mult) (rI CMul fun i j => .int (i * j)) := opI fun _ _ _ _ _ _ _ hc q => mul_int q hc.ok
theorem op_fdiv : OpR X (binaryOp .FloorDiv) (rI CDiv fun i j => .int (i / j)) := opI fun i j _ _ _ _ _ hc q => by
  have h1 : (0 : Int) < j := hc.1
  have h2 : j < 1073741824 := hc.2
  exact floordiv_int (by omega) (by rw [Int.fdiv_eq_ediv_of_nonneg i (by omega)]; exact q) (.inl (PyProof.noPylong_small (by omega)))
theorem op_mod : OpR X (binaryOp .Mod) (rI (fun _ j => 0 < j) fun i j => .int (i % j)) := opI fun i j _ _ _ _ _ hc q => by
  have h1 : (0 : Int) < j := hc
  exact mod_int' (by omega) (by rw [Int.fmod_eq_emod_of_nonneg i (by omega)]; exact q)
theorem unI {f : Value → Sem Value} {g : Int → Int}
    (rule : ∀ (i : Int) (t : Tok) (s : Shared) (Q : Value → Shared → Prop) (E : Value → Shared → Prop), Q (.int (g i) s.toks) { s with toks := s.toks + 1 } → wpAny (model X.prog X.w) X.A (f (.int i t)) Q E s) :
    UnR X f (rU fun i => .int (g i)) := by
  intro pins s σ H x v Q I rx h
  obtain ⟨i, rfl, q⟩ := h
  obtain ⟨t, rfl⟩ := rx
  exact rule i t s _ _ ⟨.int (g i), H, I.tok _, ⟨_, rfl⟩, q⟩
theorem un_neg : UnR X (unaryOp .USub) (rU fun i => .int (-i)) := unI fun _ _ _ _ _ q => neg_int q
end
def scal : V → V → Bool
  | .non, .non => true | .non, .int _ => true | .int _, .non => true | .non, .bl _ => true | .bl _, .non => true | .non, .str _ => true | .str _, .non => true
  | .int _, .int _ => true | .bl _, .bl _ => true | .str _, .str _ => true | .byt _, .byt _ => true
  | .int _, .str _ => true | .str _, .int _ => true | .bl _, .str _ => true | .str _, .bl _ => true
  | _, _ => false
def rEq : R2 := fun x y H Q => scal x y = true ∧ Q (.bl (decide (x = y))) H
def rNe : R2 := fun x y H Q => scal x y = true ∧ Q (.bl (!decide (x = y))) H
theorem dec_int {i j : Int} : decide (V.int i = V.int j) = (i == j) := by
  rw [Bool.eq_iff_iff]
  simp
theorem dec_bl {i j : Bool} : decide (V.bl i = V.bl j) = (i == j) := by
  rw [Bool.eq_iff_iff]
  simp
theorem dec_str {i j : Str} : decide (V.str i = V.str j) = (i == j) := by
  rw [Bool.eq_iff_iff]
  simp
theorem dec_byt {i j : Array UInt8} : decide (V.byt i = V.byt j) = (i.toList == j.toList) := by
  rw [Bool.eq_iff_iff]
  cases i
  cases j
  simp
section
variable {X : Cx} {a b c : Expr} {ta tb tc : TE} {pos : Pos}
theorem fin_bl {pins : List (Addr × Obj)} {σ : St} {H : Hp} {s : Shared} {Q : VK} {k k' : Bool} (I : Inv X pins σ H s) (q : Q (.bl k) H) (e : k = k') : EP X pins σ Q (.bool k') s := by
  subst e
  exact ⟨.bl k, H, I, rfl, q⟩
theorem op_eq : OpR X (compareOp .Eq) rEq := by
  intro pins s σ H x y v u Q I rx ry h
  obtain ⟨hs, q⟩ := h
  cases x with
  | non =>
    cases rx
    cases y with
    | non => cases ry; exact PySem.EqNone.eq_none_none (fin_bl I q (by simp))
    | bl j => cases ry; exact PySem.EqNone.eq_none_bool (fin_bl I q (by simp))
    | int j => obtain ⟨t', rfl⟩ := ry; exact PySem.EqNone.eq_none_int (fin_bl I q (by simp))
    | str j => obtain ⟨t', rfl⟩ := ry; exact PySem.EqNone.eq_none_str (fin_bl I q (by simp))
    | _ => exact absurd (show false = true from hs) Bool.false_ne_true
  | bl i =>
    cases rx
    cases y with
    | non => cases ry; exact PySem.EqNone.eq_bool_none (fin_bl I q (by simp))
    | bl j => cases ry; exact eq_bool (fin_bl I q dec_bl)
    | str j => obtain ⟨t', rfl⟩ := ry; exact PySem.EqMixed.eq_bool_str (fin_bl I q (by simp))
    | _ => exact absurd (show false = true from hs) Bool.false_ne_true
  | int i =>
    obtain ⟨t, rfl⟩ := rx
    cases y with
    | non => cases ry; exact PySem.EqNone.eq_int_none (fin_bl I q (by simp))
    | int j => obtain ⟨t', rfl⟩ := ry; exact eq_int (fin_bl I q dec_int)
    | str j => obtain ⟨t', rfl⟩ := ry; exact PySem.EqMixed.eq_int_str (fin_bl I q (by simp))
    | _ => exact absurd (show false = true from hs) Bool.false_ne_true
  | str i =>
    obtain ⟨t, rfl⟩ := rx
    cases y with
    | non => cases ry; exact PySem.EqNone.eq_str_none (fin_bl I q (by simp))
    | bl j => cases ry; exact PySem.EqMixed.eq_str_bool (fin_bl I q (by simp))
    | int j => obtain ⟨t', rfl⟩ := ry; exact PySem.EqMixed.eq_str_int (fin_bl I q (by simp))
    | str j => obtain ⟨t', rfl⟩ := ry; exact eq_str (fin_bl I q dec_str)
    | _ => exact absurd (show false = true from hs) Bool.false_ne_true
  | byt i =>
    obtain ⟨t, rfl⟩ := rx
    cases y with
    | byt j => obtain ⟨t', rfl⟩ := ry; exact PySem.W.eq_bytes (fin_bl I q dec_byt)
    | _ => exact absurd (show false = true from hs) Bool.false_ne_true
  | _ => cases y <;> exact absurd (show false = true from hs) Bool.false_ne_true
theorem op_ne : OpR X (compareOp .NotEq) rNe := by
  intro pins s σ H x y v u Q I rx ry h
  obtain ⟨hs, q⟩ := h
  cases x with
  | non =>
    cases rx
    cases y with
    | non => cases ry; exact PySem.EqNone.ne_none_none (fin_bl I q (by simp))
    | bl j => cases ry; exact PySem.EqNone.ne_none_bool (fin_bl I q (by simp))
    | int j => obtain ⟨t', rfl⟩ := ry; exact PySem.EqNone.ne_none_int (fin_bl I q (by simp))
    | str j => obtain ⟨t', rfl⟩ := ry; exact PySem.EqNone.ne_none_str (fin_bl I q (by simp))
    | _ => exact absurd (show false = true from hs) Bool.false_ne_true
  | bl i =>
    cases rx
    cases y with
    | non => cases ry; exact PySem.EqNone.ne_bool_none (fin_bl I q (by simp))
    | bl j => cases ry; exact ne_bool (fin_bl I q (congrArg not dec_bl))
    | str j => obtain ⟨t', rfl⟩ := ry; exact PySem.EqMixed.ne_bool_str (fin_bl I q (by simp))
    | _ => exact absurd (show false = true from hs) Bool.false_ne_true
  | int i =>
    obtain ⟨t, rfl⟩ := rx
    cases y with
    | non => cases ry; exact PySem.EqNone.ne_int_none (fin_bl I q (by simp))
    | int j => obtain ⟨t', rfl⟩ := ry; exact ne_int (fin_bl I q (congrArg not dec_int))
    | str j => obtain ⟨t', rfl⟩ := ry; exact PySem.EqMixed.ne_int_str (fin_bl I q (by simp))
    | _ => exact absurd (show false = true from hs) Bool.false_ne_true
  | str i =>
    obtain ⟨t, rfl⟩ := rx
    cases y with
    | non => cases ry; exact PySem.EqNone.ne_str_none (fin_bl I q (by simp))
    | bl j => cases ry; exact PySem.EqMixed.ne_str_bool (fin_bl I q (by simp))
    | int j => obtain ⟨t', rfl⟩ := ry; exact PySem.EqMixed.ne_str_int (fin_bl I q (by simp))
    | str j => obtain ⟨t', rfl⟩ := ry; exact ne_str (fin_bl I q (congrArg not dec_str))
    | _ => exact absurd (show false = true from hs) Bool.false_ne_true
  | byt i =>
    obtain ⟨t, rfl⟩ := rx
    cases y with
    | byt j => obtain ⟨t', rfl⟩ := ry; exact PySem.W.ne_bytes (fin_bl I q (congrArg not dec_byt))
    | _ => exact absurd (show false = true from hs) Bool.false_ne_true
  | _ => cases y <;> exact absurd (show false = true from hs) Bool.false_ne_true
theorem op_lt : OpR X (compareOp .Lt) (rI0 fun i j => .bl (decide (i < j))) := opB0 fun _ _ _ _ _ _ _ q => lt_int q
theorem op_le : OpR X (compareOp .LtE) (rI0 fun i j => .bl (decide (i ≤ j))) := opB0 fun _ _ _ _ _ _ _ q => le_int q
theorem op_gt : OpR X (compareOp .Gt) (rI0 fun i j => .bl (decide (j < i))) := opB0 fun _ _ _ _ _ _ _ q => gt_int q
theorem op_ge : OpR X (compareOp .GtE) (rI0 fun i j => .bl (decide (j ≤ i))) := opB0 fun _ _ _ _ _ _ _ q => ge_int q
theorem nomark (b : Expr) {op : CmpOp} (h : op ≠ .In := by decide) (h2 : op ≠ .NotIn := by decide) : behindInMarks op b = false := by
  have e1 : (op == CmpOp.In) = false := by cases op <;> first | rfl | exact absurd rfl h
  have e2 : (op == CmpOp.NotIn) = false := by cases op <;> first | rfl | exact absurd rfl h2
  cases b <;> simp [behindInMarks, e1, e2]
theorem pe_cmpR {op : CmpOp} {r : R2} (ho : OpR X (compareOp op) r) (ha : PE X a ta) (hb : PE X b tb) (hm : behindInMarks op b = false) : PE X (.Compare a [op] [b] pos) (tOp r ta tb) := by
  intro pins s σ H Q I h
  exact wpAny_Compare1 (binT ha hb I h fun v u s2 x y H2 I2 rx ry q => ho pins s2 σ H2 x y v u Q I2 rx ry q) hm
def tTest (t : TE) : TT := fun σ H Q => t σ H fun x H' => ∃ k, x = .bl k ∧ Q k H'
theorem pt_cmpR {op : CmpOp} {r : R2} (ho : OpR X (compareOp op) r) (ha : PE X a ta) (hb : PE X b tb) (hm : behindInMarks op b = false) : PT X (.Compare a [op] [b] pos) (tTest (tOp r ta tb)) := by
  intro pins s σ H Q I h
  refine wpAny_isTrue_Compare1 (thn (ha pins s σ H _ I h) fun v s1 ⟨x, H1, I1, r1, q1⟩ => thn (hb pins s1 σ H1 _ I1 q1) fun u s2 ⟨y, H2, I2, r2, q2⟩ =>
    thn (ho pins s2 σ H2 x y v u _ I2 r1 r2 q2) fun c s3 ⟨z, H3, I3, r3, k, e, q3⟩ => ?_) hm
  subst e
  cases r3
  exact wpAny_truthy_bool ⟨H3, I3, q3⟩
def tChain (r r' : R2) (ta tb tc : TE) : TE := fun σ H Q => ta σ H fun x H1 => tb σ H1 fun y H2 => r x y H2 fun z H3 => ∃ k, z = .bl k ∧
  (if k = true then tc σ H3 fun w' H4 => r' y w' H4 Q else Q (.bl false) H3)
theorem pe_chain {op op' : CmpOp} {r r' : R2} (ho : OpR X (compareOp op) r) (ho' : OpR X (compareOp op') r') (ha : PE X a ta) (hb : PE X b tb) (hc : PE X c tc)
    (hm : lastMarks [op, op'] [b, c] = false := by with_unfolding_all rfl) : PE X (.Compare a [op, op'] [b, c] pos) (tChain r r' ta tb tc) := by
  intro pins s σ H Q I h
  refine Compare_chain (thn (ha pins s σ H _ I h) fun v s1 ⟨x, H1, I1, r1, q1⟩ => chain_link (thn (hb pins s1 σ H1 _ I1 q1) fun u s2 ⟨y, H2, I2, r2, q2⟩ =>
    thn (ho pins s2 σ H2 x y v u _ I2 r1 r2 q2) fun d s3 ⟨z, H3, I3, r3, k, e, q3⟩ => ?_)) hm
  subst e
  cases r3
  refine wpAny_truthy_bool ?_
  cases k with
  | false => exact ite_ff ⟨.bl false, H3, I3, rfl, q3⟩
  | true => exact ite_tt (chain_last (thn (hc pins s3 σ H3 _ I3 q3) fun w' s4 ⟨z', H4, I4, r4, q4⟩ => ho' pins s4 σ H4 y z' u w' Q I4 r2 r4 q4))
theorem pt_chain {op op' : CmpOp} {r r' : R2} (ho : OpR X (compareOp op) r) (ho' : OpR X (compareOp op') r') (ha : PE X a ta) (hb : PE X b tb) (hc : PE X c tc)
    (hm : lastMarks [op, op'] [b, c] = false := by with_unfolding_all rfl) : PT X (.Compare a [op, op'] [b, c] pos) (tTest (tChain r r' ta tb tc)) := by
  intro pins s σ H Q I h
  refine isTrue_chain (thn (ha pins s σ H _ I h) fun v s1 ⟨x, H1, I1, r1, q1⟩ => test_link (thn (hb pins s1 σ H1 _ I1 q1) fun u s2 ⟨y, H2, I2, r2, q2⟩ =>
    thn (ho pins s2 σ H2 x y v u _ I2 r1 r2 q2) fun d s3 ⟨z, H3, I3, r3, k, e, q3⟩ => ?_)) hm
  subst e
  cases r3
  refine wpAny_truthy_bool ?_
  cases k with
  | false =>
    obtain ⟨k', e', q'⟩ := q3
    cases e'
    exact ite_ff ⟨H3, I3, q'⟩
  | true =>
    refine ite_tt (test_last (thn (hc pins s3 σ H3 _ I3 q3) fun w' s4 ⟨z', H4, I4, r4, q4⟩ => thn (ho' pins s4 σ H4 y z' u w' _ I4 r2 r4 q4) fun d' s5 ⟨z2, H5, I5, r5, k2, e2, q5⟩ => ?_))
    subst e2
    cases r5
    exact wpAny_truthy_bool ⟨H5, I5, q5⟩
def TruV (K : PySem.W.Frag) (x : V) (H : Hp) (k : Bool) : Prop :=
  match x with
  | .non => k = false
  | .bl b => k = b
  | .int i => k = (i != 0)
  | .str y => y.length ≤ sizeLine ∧ k = ((y.length : Int) != 0)
  | .byt y => y.size ≤ sizeLine ∧ k = ((y.size : Int) != 0)
  | .ref p => (∃ xs, SqL K H p xs ∧ k = !xs.isEmpty) ∨ (∃ xs, SqT K H p xs ∧ k = !xs.isEmpty) ∨ ∃ kvs, H p = some (.dK kvs) ∧ k = !kvs.isEmpty
  | _ => False
theorem isEmpty_kv {κ : Type} {kvs : List (κ × V)} {vs : List (κ × Value)} (r : KV kvs vs) : (!vs.isEmpty) = !kvs.isEmpty := by
  cases r <;> rfl
theorem isEmpty_of {xs : List V} {its : List Value} (r : Vals xs its) : (!its.toArray.isEmpty) = !xs.isEmpty := by
  cases r <;> simp
theorem line63 : (sizeLine : Nat) < 2 ^ 63 := by rw [sizeLine_eq]; decide
theorem tru_ok : TruR X (fun x H Q => ∃ k, TruV X.K x H k ∧ Q k H) := by
  intro pins s σ H x v Q I rx h
  obtain ⟨k, e, q⟩ := h
  have hl := line63
  have hs : sizeLine = 16777216 := sizeLine_eq
  cases x with
  | non =>
    cases rx
    have e' : k = false := e
    subst e'
    exact truthy_none ⟨H, I, q⟩
  | bl b =>
    cases rx
    have e' : k = b := e
    subst e'
    exact wpAny_truthy_bool ⟨H, I, q⟩
  | int i =>
    obtain ⟨t, rfl⟩ := rx
    have e' : k = (i != 0) := e
    subst e'
    exact PySem.P.truthy_int ⟨H, I, q⟩
  | str y =>
    obtain ⟨t, rfl⟩ := rx
    obtain ⟨hy, e'⟩ : y.length ≤ sizeLine ∧ k = ((y.length : Int) != 0) := e
    subst e'
    exact PySem.P.truthy_str (by omega) ⟨H, I.tok _, q⟩
  | byt y =>
    obtain ⟨t, rfl⟩ := rx
    obtain ⟨hy, e'⟩ : y.size ≤ sizeLine ∧ k = ((y.size : Int) != 0) := e
    subst e'
    exact PySem.W.truthy_bytes (by omega) ⟨H, I.tok _, q⟩
  | ref p =>
    cases rx
    have e' : (∃ xs, SqL X.K H p xs ∧ k = !xs.isEmpty) ∨ (∃ xs, SqT X.K H p xs ∧ k = !xs.isEmpty) ∨ ∃ kvs, H p = some (.dK kvs) ∧ k = !kvs.isEmpty := e
    rcases e' with ⟨xs, hx, e'⟩ | ⟨xs, hx, e'⟩ | ⟨kvs, hx, e'⟩
    · subst e'
      obtain ⟨its, r, pl, hz⟩ := I.list hx
      have hlen := r.length
      exact wpAny_truthy_list pl.isList (by simp only [List.size_toArray]; omega) ⟨H, I.tok _, by rw [isEmpty_of r]; exact q⟩
    · subst e'
      obtain ⟨its, r, pl, hz⟩ := I.tuple hx
      have hlen := r.length
      exact truthy_tuple pl (by simp only [List.size_toArray]; omega) ⟨H, I.tok _, by rw [isEmpty_of r]; exact q⟩
    · subst e'
      obtain ⟨hz, hS, vs, r, m⟩ : kvs.length ≤ sizeLine ∧ (p == sysModules) = false ∧ ∃ vs, KV kvs vs ∧ s.heap.DictOf (mixKind X.prog X.w) p vs := I.hok p _ hx
      have hlen : kvs.length = vs.length := Paired.length r
      exact wpAny_truthy_dict hS m (by omega) ⟨H, I.tok _, by rw [isEmpty_kv r]; exact q⟩
  | _ => exact (show False from e).elim
theorem pt_truth (ha : PE X a ta) (he : ∀ whole, isTrue a X.env whole = (do let v ← whole; standAt a.pos; holding [v] (truthy v))) :
    PT X a (fun σ H Q => ta σ H fun x H' => ∃ k, TruV X.K x H' k ∧ Q k H') := by
  intro pins s σ H Q I h
  exact isTrue_plain (thn (ha pins s σ H _ I h) fun v s1 ⟨x, H1, I1, r1, q1⟩ => tru_ok pins s1 σ H1 x v Q I1 r1 q1) (he _)
theorem op_add_str : OpR X (binaryOp .Add) (fun x y H Q => ∃ i j, x = .str i ∧ y = .str j ∧ i.length + j.length ≤ sizeLine ∧ Q (.str (i ++ j)) H) := by
  intro pins s σ H x y v u Q I rx ry h
  obtain ⟨i, j, rfl, rfl, hz, q⟩ := h
  obtain ⟨t, rfl⟩ := rx
  obtain ⟨t', rfl⟩ := ry
  exact add_str (fun t' tk => ⟨.str (i ++ j), H, I.tok _, ⟨_, rfl⟩, q⟩) hz
theorem vals1 {x : V} {us : List Value} (r : Vals [x] us) : ∃ u, us = [u] ∧ RelV x u := by
  cases r with
  | cons r1 r2 => cases r2; exact ⟨_, rfl, r1⟩
theorem vals2 {x y : V} {us : List Value} (r : Vals [x, y] us) : ∃ u w', us = [u, w'] ∧ RelV x u ∧ RelV y w' := by
  cases r with
  | cons r1 r2 =>
    cases r2 with
    | cons r3 r4 => cases r4; exact ⟨_, _, rfl, r1, r3⟩
theorem call_max2 (hc : X.calm = true) : CallR X (.builtin "max") (fun xs H Q => ∃ i j, xs = [.int i, .int j] ∧ Q (.int (if j > i then j else i)) H) := by
  intro pins s σ H xs us Q I r h
  obtain ⟨i, j, rfl, q⟩ := h
  obtain ⟨u, w', rfl, ⟨t, rfl⟩, ⟨t', rfl⟩⟩ := vals2 r
  refine max_two_ints (I.ok.hd hc) fun h' tk k => ⟨_, H, I.kept k, ?_, q⟩
  by_cases hj : j > i
  · rw [if_pos hj, if_pos hj]; exact ⟨_, rfl⟩
  · rw [if_neg hj, if_neg hj]; exact ⟨_, rfl⟩
theorem call_min2 (hc : X.calm = true) : CallR X (.builtin "min") (fun xs H Q => ∃ i j, xs = [.int i, .int j] ∧ Q (.int (if j < i then j else i)) H) := by
  intro pins s σ H xs us Q I r h
  obtain ⟨i, j, rfl, q⟩ := h
  obtain ⟨u, w', rfl, ⟨t, rfl⟩, ⟨t', rfl⟩⟩ := vals2 r
  refine min_two_ints (I.ok.hd hc) fun h' tk k => ⟨_, H, I.kept k, ?_, q⟩
  by_cases hj : j < i
  · rw [if_pos hj, if_pos hj]; exact ⟨_, rfl⟩
  · rw [if_neg hj, if_neg hj]; exact ⟨_, rfl⟩
theorem call_ord : CallR X (.builtin "ord") (fun xs H Q => ∃ x, xs = [.str x] ∧ x.length = 1 ∧ Q (.int (x.cps.getD 0 0 : Nat)) H) := by
  intro pins s σ H xs us Q I r h
  obtain ⟨x, rfl, hz, q⟩ := h
  obtain ⟨u, rfl, t, rfl⟩ := vals1 r
  exact ord_of_one hz ⟨.int _, H, I.tok _, ⟨_, rfl⟩, q⟩
end
end L2
namespace L2
open PySem PySem.Spec PyProof.Rows
structure ObjM (h : Heap) (x dx C : Addr) (mA : Str → Option Value) : Prop where
  obj : h.get? x = some (PySem.W.instObj C dx)
  ns : h.Ns1 dx mA
  ne : dx ≠ x
theorem lookIn_ns {h : Heap} {dx : Addr} {mA : Str → Option Value} (n : h.Ns1 dx mA) : ∃ od, h.get? dx = some od ∧ ∀ name, PySem.W.lookIn name od = some (mA name) := by
  obtain ⟨o, es, ep, ho, hd, hk, _, hm⟩ := n
  refine ⟨o, ho, fun name => ?_⟩
  have e := hm name
  unfold nsFind findBy at e
  rw [← Array.find?_toList] at e
  unfold PySem.W.lookIn
  rw [hd]
  dsimp only
  split
  · rename_i y q
    rw [q] at e
    exact congrArg some e
  · rename_i q
    rw [q] at e
    have a : es.toList.any (·.refKey) = false := by
      rw [List.any_eq_false]
      intro y hy
      obtain ⟨z, t, hkey⟩ := hk y (Array.mem_toList_iff.mp hy)
      simp [DictEntry.refKey, hkey]
    have a' : ¬ es.toList.any (·.refKey) = true := by rw [a]; exact Bool.false_ne_true
    rw [if_neg a']
    exact congrArg some e
theorem ObjM.look {h : Heap} {x dx C : Addr} {mA : Str → Option Value} (I : ObjM h x dx C mA) : ∃ od, PySem.W.InstAt h x (PySem.W.instObj C dx) C (some od) ∧ ∀ name, PySem.W.lookIn name od = some (mA name) :=
  let ⟨od, ho, hl⟩ := lookIn_ns I.ns
  ⟨od, ⟨I.obj, rfl, rfl, ho⟩, hl⟩
section
variable {prog : Program} {w : World} {A : Around} {E : Value → Shared → Prop} {s : Shared} {K : PySem.W.Frag} {x dx C f : Addr} {mA : Str → Option Value} {name : Str} {v : Value}
end
theorem RelO.some_of {v : V} {o : Option Value} (r : RelO (some v) o) : ∃ u, o = some u ∧ RelV v u := by
  cases o with
  | none => exact (show False from r).elim
  | some u => exact ⟨u, rfl, r⟩
section
variable {P : Program} {w : World} {H H' : Hp} {h h' : Heap} {a C dx : Addr} {fs fs' : List (Str × V)}
theorem ins_get (hok : HOk P w H h) (e : H a = some (.ins C dx fs)) : ∃ mA, ObjM h a dx C mA ∧ (∀ f, RelO (fs.lookup f) (mA f)) ∧ PySem.Within mA (fs.map (·.1)) ∧ fs.length ≤ 1000 ∧ H dx = some (.own a) := by
  obtain ⟨d, z, ne, ob, mA, n, r, q⟩ := (show ObjOk P w H h a (.ins C dx fs) from hok a _ e)
  exact ⟨mA, ⟨ob, n, ne⟩, r, q, z, d⟩
end
structure Cls (K : PySem.W.Frag) (C : Addr) : Prop where
  pg : PySem.W.plainGet K C Str.empty = true
  hd : PySem.W.hasDictIn K C = true
  po : PySem.W.plainOver K C = true
  sa : PySem.W.findIn K (.ref C) "__setattr__" = some (some (.builtin "object.__setattr__"))
theorem Cls.get {K : PySem.W.Frag} {C : Addr} (c : Cls K C) (f : Str) : PySem.W.plainGet K C f = true := c.pg
section
variable {X : Cx} {pins : List (Addr × Obj)} {σ : St} {H : Hp} {s : Shared} {a C dx : Addr} {fs : List (Str × V)} {f : Str} {v : V} {A : Around} {E : Value → Shared → Prop}
end
section
variable {X : Cx} {o e value : Expr} {f : Str} {pos pos' tpos : Pos} {ta tv : TE}
end
section
variable {X : Cx} {pins : List (Addr × Obj)} {σ : St} {H : Hp} {s : Shared} {A : Around} {E : Value → Shared → Prop} {Q : Value → Shared → Prop} {c : Value} {b : Bool}
inductive TyOf (K : PySem.W.Frag) (H : Hp) : V → Value → Prop where
  | non : TyOf K H .non (.type "NoneType")
  | bl (x : Bool) : TyOf K H (.bl x) (.type "bool")
  | int (i : Int) : TyOf K H (.int i) (.type "int")
  | str (x : Str) : TyOf K H (.str x) (.type "str")
  | flt (x : UInt64) : TyOf K H (.flt x) (.type "float")
  | lst {a : Addr} {xs : List V} (e : H a = some (.lst xs)) : TyOf K H (.ref a) (.type "list")
  | frz {a : Addr} {o : Obj} {xs : List V} (e : H a = some (.frz o (.lst xs))) : TyOf K H (.ref a) (.type "list")
  | tup {a : Addr} {xs : List V} (e : H a = some (.tup xs)) : TyOf K H (.ref a) (.type "tuple")
  | dK {a : Addr} {kvs : List (Key × V)} (e : H a = some (.dK kvs)) : TyOf K H (.ref a) (.type "dict")
  | dT {a : Addr} {kvs : List (List Key × V)} (e : H a = some (.dT kvs)) : TyOf K H (.ref a) (.type "dict")
  | ins {a C dx : Addr} {fs : List (Str × V)} (e : H a = some (.ins C dx fs)) (cl : Cls K C) (ha : PySem.W.findIn K (.ref C) "__class__" = some (some (.builtin "object.__class__")))
      (hn : PySem.W.specialIn K (.builtin "object.__class__") "__get__" = some (some (.builtin "getset_descriptor.__get__"))) (htk : PySem.W.takesIn K (.builtin "object.__class__") = some true)
      (hm : PySem.W.mroIn K C (.type "object") = some true) : TyOf K H (.ref a) (.ref C)
end
end L2
namespace L2
open PySem PySem.Spec PyProof.Rows
structure Room (k : Nat) (A : Around) : Prop where
  hd : A.handled = none
  dp : A.depth + 3 * k + 5 < recursionLimit
  un : A.units + 16 * k + 200 < cLine
theorem Room.mono {j k : Nat} {A : Around} (r : Room k A) (h : j ≤ k) : Room j A := ⟨r.hd, by have := r.dp; omega, by have := r.un; omega⟩
theorem Room.deeper {k : Nat} {A : Around} (r : Room (k + 1) A) (env : Env) : Room k (A.deeper env) :=
  ⟨r.hd, by have := r.dp; show A.depth + 1 + 3 * k + 5 < _; omega, by have := r.un; show A.units + 3 + 16 * k + 200 < _; omega⟩
theorem Room.depth {k : Nat} {A : Around} (r : Room k A) : A.depth < recursionLimit := by have := r.dp; omega
theorem Room.units {k : Nat} {A : Around} (r : Room k A) : A.units + 64 < cLine := by have := r.un; omega
def tNil : TA := fun _ H Q => Q [] H
def tCons (ta : TE) (tr : TA) : TA := fun σ H Q => ta σ H fun x H1 => tr σ H1 fun xs H2 => Q (x :: xs) H2
section
variable {X : Cx} {e : Expr} {es : List Expr} {te : TE} {t : TA} {pos : Pos}
theorem pa_nil : PA X [] tNil := fun _ _ _ _ H Q I h => Calls.spliced_nil ⟨[], H, I, .nil, h⟩
theorem pa_cons (ha : PE X e te) (hr : PA X es t) (hs : starEach (e :: es) X.env = (false, eval e X.env) :: starEach es X.env := by rfl) : PA X (e :: es) (tCons te t) := by
  intro pos pins s σ H Q I h
  rw [hs]
  show wpAny _ _ (spliced ((false, eval e X.env) :: backTo pos (starEach es X.env))) _ _ s
  refine Calls.spliced_cons (thn (ha pins s σ H _ I h) fun u s1 ⟨x, H1, I1, r1, q1⟩ => ?_)
  exact thn (hr pos pins s1 σ H1 _ I1 q1) fun us s2 ⟨xs, H2, I2, r2, q2⟩ => ⟨x :: xs, H2, I2, .cons r1 r2, q2⟩
def tTup (t : TA) : TE := fun σ H Q => t σ H fun xs H1 => xs.length ≤ sizeLine ∧ ∀ p, H1 p = none → Q (.ref p) (upd H1 p (.tup xs))
def tLst (t : TA) : TE := fun σ H Q => t σ H fun xs H1 => xs.length ≤ sizeLine ∧ ∀ p, H1 p = none → Q (.ref p) (upd H1 p (.lst xs))
theorem pe_tup {x1} (h : PA X es t) : PE X (.Tuple es x1 pos) (tTup t) := by
  intro pins s σ H Q I hq
  refine wpAny_Tuple_spliced (thn (h pos pins s σ H _ I hq) fun us s1 ⟨xs, H1, I1, r, z, q⟩ => ⟨by rw [← r.length]; exact z, ?_⟩)
  have hf : H1 s1.heap.objs.size = none := I1.hok.fresh (Nat.le_refl _)
  refine ⟨.ref s1.heap.objs.size, upd H1 s1.heap.objs.size (.tup xs), I1.laid (t' := s1.toks) (fun b u e => Heap.get?_push_of_some _ e) (Nat.le_refl _) ?_, rfl, q _ hf⟩
  exact ⟨z, us, r, ⟨_, Heap.get?_push_size _ rfl, rfl, _, rfl⟩⟩
theorem pe_lst (h : PA X es t) : PE X (.List es pos) (tLst t) := by
  intro pins s σ H Q I hq
  refine wpAny_List_spliced (thn (h pos pins s σ H _ I hq) fun us s1 ⟨xs, H1, I1, r, z, q⟩ => ⟨by rw [← r.length]; exact z, ?_⟩)
  have hf : H1 s1.heap.objs.size = none := I1.hok.fresh (Nat.le_refl _)
  refine ⟨.ref s1.heap.objs.size, upd H1 s1.heap.objs.size (.lst xs), I1.laid (t' := s1.toks) (fun b u e => Heap.get?_push_of_some _ e) (Nat.le_refl _) ?_, rfl, q _ hf⟩
  exact ⟨z, us, 0, r, Heap.get?_push_size _ rfl⟩
end
abbrev Sp := List V → Hp → VK → XK → Prop
abbrev CXT := List Env → Hp → Shared → XK → Value → Shared → Prop
structure Env0 (P : Program) (w : World) (K : PySem.W.Frag) (mg : Str → Option Value) (base : Heap) (A : Around) (outer : List Env) (s : Shared) (H : Hp) : Prop where
  frames : A.frames = some outer
  mod : Mod K mg base
  bs : ∀ b o, base.get? b = some o → s.heap.get? b = some o ∧ H b = none
  bsz : base.objs.size ≤ s.heap.objs.size
  funs : s.heap.FunFrames base outer
  frf : ∀ b ∈ frs outer, H b = none
  hok : HOk P w H s.heap
  bare : AllBare s.gens
def CE (outer : List Env) (P : Program) (w : World) (H : Hp) (s : Shared) (Q : VK) (u : Value) (s' : Shared) : Prop :=
  ∃ v H', s'.os = s.os ∧ AllBare s'.gens ∧ Un (frs outer) [] H H' s.heap s'.heap ∧ HOk P w H' s'.heap ∧ RelV v u ∧ Q v H'
def CR (CX : CXT) (outer : List Env) (P : Program) (w : World) (H : Hp) (s : Shared) (Q : VK) (E : XK) (r : Result) (s' : Shared) : Prop :=
  match r with
  | .ok (.ret u) => CE outer P w H s Q u s'
  | .ok _ => False
  | .error e => CX outer H s E e s'
structure FnOk (P : Program) (w : World) (K : PySem.W.Frag) (mg : Str → Option Value) (base : Heap) (CX : CXT) (k : Nat) (f : Addr) (fd : FuncData) (ps : List Str) (sp : Sp) : Prop where
  len : ∀ vs H Q E, sp vs H Q E → vs.length = ps.length
  run : ∀ (A : Around) (outer : List Env) (s : Shared) (H : Hp) (args : Args) (us : List Value) (vs : List V) (Q : VK) (E : XK), Room k A → Env0 P w K mg base A outer s H → BindsTo s fd args (ps.zip us) → Vals vs us → sp vs H Q E →
    codeAny (model P w) A (.call (.ref f) args) (CR CX outer P w H s Q E) s
section
variable {X : Cx} {pins : List (Addr × Obj)} {σ : St} {H : Hp} {s s' : Shared}
theorem Inv.env0 (I : Inv X pins σ H s) : Env0 X.prog X.w X.K X.mg X.base X.A X.stack s H :=
  ⟨I.ok.frames, I.ok.mod, I.bs, Nat.le_trans I.ok.bsz I.sz, I.stack, I.stkFree, I.hok, I.bare⟩
theorem Inv.after {Q : VK} {u : Value} (I : Inv X pins σ H s) (h : CE X.stack X.prog X.w H s Q u s') : EP X pins σ Q u s' := by
  obtain ⟨v, H', os, bare, un, hok, r, q⟩ := h
  obtain ⟨hh, g, d, t, os'⟩ := s'
  obtain rfl : os' = s.os := os
  exact ⟨v, H', I.call (h' := hh) (g' := g) (d' := d) (t' := t) (ch := []) un hok bare (fun b z => absurd z (by simp)), r, q⟩
end
def tCall (sp : Sp) (dvs : List V) (E : XK) (t : TA) : TE := fun σ H Q => t σ H fun vs H1 => sp (vs ++ dvs) H1 Q E
def Binds (K : PySem.W.Frag) (fd : FuncData) (ps : List Str) (ds : List Value) : Prop :=
  ∀ (s : Shared) (us : List Value), K.In s.heap → (us ++ ds).length = ps.length → BindsTo s fd ⟨us, []⟩ (ps.zip (us ++ ds))
theorem Binds.all {K : PySem.W.Frag} {fd : FuncData} {ps : List Str} (h : ∀ us : List Value, us.length = ps.length → bindArgs fd ⟨us, []⟩ = pure (ps.zip us)) : Binds K fd ps [] := fun s us _ hl => by
  rw [List.append_nil] at hl ⊢
  exact .of_eq (h us hl)
def Passes (CX : CXT) (X : Cx) (E : XK) : Prop := ∀ (pins : List (Addr × Obj)) (σ : St) (H : Hp) (s : Shared) (e : Value) (s' : Shared), Inv X pins σ H s → CX X.stack H s E e s' → X.xe e s'
section
variable {X : Cx} {CX : CXT} {k : Nat} {f C : Addr} {fd : FuncData} {ps : List Str} {sp : Sp} {dvs : List V} {ds : List Value} {E : XK} {x m : Str} {p pos apos : Pos} {e o : Expr} {es : List Expr} {ta : TE} {t : TA}
theorem run_fn {pins : List (Addr × Obj)} {σ : St} {H : Hp} {s : Shared} {Q : VK} {us : List Value} {vs : List V} (F : FnOk X.prog X.w X.K X.mg X.base CX k f fd ps sp) (hr : Room k X.A) (hb : Binds X.K fd ps ds) (hd : Vals dvs ds) (hx : Passes CX X E)
    (I : Inv X pins σ H s) (r : Vals vs us) (h : sp (vs ++ dvs) H Q E) : wpAny (model X.prog X.w) X.A (call (.ref f) us) (EP X pins σ Q) X.xe s := by
  have r2 : Vals (vs ++ dvs) (us ++ ds) := r.append hd
  have hl : (us ++ ds).length = ps.length := by rw [← r2.length]; exact F.len _ _ _ _ h
  refine wpAny_call (codeAny_mono (F.run X.A X.stack s H ⟨us, []⟩ (us ++ ds) (vs ++ dvs) Q E hr I.env0 (hb s us I.kIn hl) r2 h) fun r s' hq => ?_)
  cases r with
  | error e => exact hx pins σ H s e s' I hq
  | ok fl =>
    cases fl with
    | ret u => exact I.after hq
    | next => exact False.elim hq
    | brk => exact False.elim hq
    | cont => exact False.elim hq
theorem pe_call (F : FnOk X.prog X.w X.K X.mg X.base CX k f fd ps sp) (hr : Room k X.A) (hg : Gl X x) (hm : X.mg x = some (.ref f)) (hk : PySem.W.keepIn X.K (.ref f) = true) (hb : Binds X.K fd ps ds) (hd : Vals dvs ds) (hx : Passes CX X E)
    (ha : PA X (e :: es) t) (hdb : (x == ("__debug__" : Str)) = false := by decide) (he : starEach (e :: es) X.env = (false, eval e X.env) :: starEach es X.env := by rfl) (hpl : (backTo pos (starEach es X.env)).any (·.1) = false := by rfl) :
    PE X (.Call (.Name x p) (e :: es) [] pos) (tCall sp dvs E t) := by
  intro pins s σ H Q I h
  refine wpAny_Call_Name_kw (ld_glob I hg hm ?_ hdb)
  refine PySem.W.callWith_K (h₀ := X.base) I.ok.mod.kin hk (thn (ha pos pins s σ H _ I h) fun us s1 ⟨vs, H1, I1, r, q⟩ => ⟨I1.kIn, ?_⟩) he hpl
  exact run_fn F hr hb hd hx I1 r q
end
section
variable {X : Cx} {CX : CXT} {k : Nat} {f C : Addr} {fd : FuncData} {ps ks : List Str} {sp : Sp} {E : XK} {x m : Str} {p pos apos kpos : Pos} {e o : Expr} {es : List Expr} {kws : List Keyword} {te ta : TE} {t tk : TA} {nm : Option Str}
variable {g : List Value → List Value → List Value} {gV : List V → List V → List V}
end
structure FnScope (N P : List Str) (sc : Scope) : Prop where
  kind : sc.kind = .function
  co : sc.isCoroutine = false
  gen : sc.isGenerator = false
  nd : N.Nodup
  pre : N.take P.length = P
  par : ∀ x ∈ P, sc.names.lookup x = some .local ∨ sc.names.lookup x = some .cell
  nofree : ∀ y ∈ sc.names, y.2 ≠ .free
theorem bindL_out {kindOf : Str → Option NameKind} {x : Str} : ∀ {binds : List (Str × Value)} {m : Str → Option Value}, (∀ v, (x, v) ∉ binds) → bindL kindOf binds m x = m x
  | [], _, _ => rfl
  | (n, v) :: r, m, h => by
    unfold bindL
    rw [bindL_out fun w hw => h w (List.mem_cons_of_mem _ hw)]
    split
    · have : x ≠ n := by rintro rfl; exact h v List.mem_cons_self
      simp [this]
    · rfl
theorem bindC_out {kindOf : Str → Option NameKind} {x : Str} : ∀ {binds : List (Str × Value)} {m : Str → Option Value}, (∀ v, (x, v) ∉ binds) → bindC kindOf binds m x = m x
  | [], _, _ => rfl
  | (n, v) :: r, m, h => by
    unfold bindC
    rw [bindC_out fun w hw => h w (List.mem_cons_of_mem _ hw)]
    split
    · rfl
    · have : x ≠ n := by rintro rfl; exact h v List.mem_cons_self
      simp [this]
theorem bindL_get {kindOf : Str → Option NameKind} {x : Str} {v : Value} : ∀ {P : List Str} {vs : List Value} {i : Nat} {m : Str → Option Value}, P.Nodup → P[i]? = some x → vs[i]? = some v → kindOf x = some .local →
    bindL kindOf (P.zip vs) m x = some v
  | [], _, _, _, _, h, _, _ => by simp at h
  | _ :: _, [], _, _, _, _, h, _ => by simp at h
  | p :: P, w :: vs, 0, m, nd, h1, h2, hk => by
    simp at h1 h2; subst h1; subst h2
    show bindL kindOf ((p, w) :: P.zip vs) m p = _
    unfold bindL
    rw [bindL_out fun v hv => (List.nodup_cons.mp nd).1 (List.of_mem_zip hv).1, if_pos hk]
    simp
  | p :: P, w :: vs, i + 1, m, nd, h1, h2, hk => by
    show bindL kindOf ((p, w) :: P.zip vs) m x = _
    unfold bindL
    exact bindL_get (i := i) (List.nodup_cons.mp nd).2 (by simpa using h1) (by simpa using h2) hk
theorem bindC_get {kindOf : Str → Option NameKind} {x : Str} {v : Value} : ∀ {P : List Str} {vs : List Value} {i : Nat} {m : Str → Option Value}, P.Nodup → P[i]? = some x → vs[i]? = some v → kindOf x ≠ some .local →
    bindC kindOf (P.zip vs) m x = some v
  | [], _, _, _, _, h, _, _ => by simp at h
  | _ :: _, [], _, _, _, _, h, _ => by simp at h
  | p :: P, w :: vs, 0, m, nd, h1, h2, hk => by
    simp at h1 h2; subst h1; subst h2
    show bindC kindOf ((p, w) :: P.zip vs) m p = _
    unfold bindC
    rw [bindC_out fun v hv => (List.nodup_cons.mp nd).1 (List.of_mem_zip hv).1, if_neg hk]
    simp
  | p :: P, w :: vs, i + 1, m, nd, h1, h2, hk => by
    show bindC kindOf ((p, w) :: P.zip vs) m x = _
    unfold bindC
    exact bindC_get (i := i) (List.nodup_cons.mp nd).2 (by simpa using h1) (by simpa using h2) hk
def start (N : List Str) (vs : List V) : St := vs.map some ++ List.replicate (N.length - vs.length) none
def cxOf (CX : CXT) (P : Program) (w : World) (K : PySem.W.Frag) (mg : Str → Option Value) (base : Heap) (N : List Str) (qual : Str) (scope : Scope) (f : Addr) (cd : Value) (A : Around) (outer : List Env) (s : Shared) (H : Hp) (E : XK) : Cx where
  prog := P
  w := w
  K := K
  mg := mg
  base := base
  A := A.deeper (envOfC qual scope s.heap.objs.size f cd)
  N := N
  s₀ := s
  H₀ := H
  env := envOfC qual scope s.heap.objs.size f cd
  outer := outer
  stack := envOfC qual scope s.heap.objs.size f cd :: outer
  ex := []
  calm := true
  fn := fun _ => true
  pn := []
  xe := fun e s' => wpAny (model P w) (A.deeper (envOfC qual scope s.heap.objs.size f cd)) (leaving (envOfC qual scope s.heap.objs.size f cd) e) (fun _ s'' => CX outer H s E e s'') (fun e' s'' => CX outer H s E e' s'') s'
theorem cell_has {sc : Scope} {n : Nat} {x : Str} (h : sc.names.lookup x = some .cell) : ∃ c, (cellsFrom n sc.names []).lookup x = some c := by
  have q := PySem.W.cellsFrom_some sc.names n [] (.inl h)
  exact Option.isSome_iff_exists.mp q
theorem inv_start {CX : CXT} {P : Program} {w : World} {K : PySem.W.Frag} {mg : Str → Option Value} {base : Heap} {N ps : List Str} {qual : Str} {scope : Scope} {f : Addr} {cd : Value} {A : Around} {outer : List Env} {s s1 : Shared} {H : Hp} {E : XK} {us : List Value} {vs : List V}
    (S : FnScope N ps scope) (hd : A.handled = none) (e0 : Env0 P w K mg base A outer s H) (hl : vs.length = ps.length) (r : Vals vs us)
    (x : InCallC s s.heap.objs.size (bindL (envOfC qual scope s.heap.objs.size f cd).kindOf (ps.zip us) fun _ => none) (cellsFrom (s.heap.objs.size + 1) scope.names []) (bindC (envOfC qual scope s.heap.objs.size f cd).kindOf (ps.zip us) fun _ => none) s1) :
    Inv (cxOf CX P w K mg base N qual scope f cd A outer s H E) [] (start N vs) H s1 := by
  have hpl : ps.length ≤ N.length := by have := congrArg List.length S.pre; rw [List.length_take] at this; omega
  obtain ⟨h1, tk, rfl, hk⟩ := x.done
  have noA : ∀ b : Addr, b ∉ (cxOf CX P w K mg base N qual scope f cd A outer s H E).ex := fun b z => absurd (show b ∈ ([] : List Addr) from z) (by simp)
  refine ⟨⟨e0.mod, S.kind, rfl, rfl, Nat.le_refl _, fun y z c h1 h2 => ?_, fun y hy => ?_, fun y c _ h => ?_, fun _ => hd, Around.frames_deeper e0.frames, .inr ⟨rfl, rfl⟩, fun b z => absurd z (noA b), e0.bs, e0.bsz, fun b _ _ => noA b, fun b z => absurd z (noA b), e0.funs, e0.frf⟩,
    rfl, e0.bare, Un.kept hk, ⟨_, x.toInCall.ns, fun i y v h1 h2 h3 => ?_⟩, fun y c h => ⟨_, x.cell y c h⟩, e0.hok.fresh (Nat.le_refl _), fun y c h => ?_, fun p hp => absurd (show p ∈ ([] : List (Addr × Obj)) from hp) (by simp), e0.hok.kept hk, ?_⟩
  · exact name_of_addr x.apart (PySem.mem_of_lookup h1) (PySem.mem_of_lookup h2)
  · have hy : scope.names.lookup y = some .cell ∨ scope.names.lookup y = some .free := hy
    rcases hy with hy | hy
    · exact cell_has hy
    · exact absurd rfl (S.nofree _ (PySem.mem_of_lookup hy))
  · exact Nat.le_of_lt (x.above y c (PySem.mem_of_lookup h))
  · have hi : i < vs.length := by
      unfold start at h2
      by_cases hi : i < vs.length
      · exact hi
      · rw [List.getElem?_append_right (by simpa using hi)] at h2
        rw [List.getElem?_replicate] at h2
        split at h2 <;> cases h2
    have ha : vs[i]? = some v := by
      unfold start at h2
      rw [List.getElem?_append_left (by simpa using hi), List.getElem?_map] at h2
      cases e : vs[i]? with
      | none => rw [e] at h2; cases h2
      | some a => rw [e] at h2; cases h2; rfl
    obtain ⟨u, hu, rv⟩ := r.get ha
    have hp : ps[i]? = some y := by
      rw [← S.pre, List.getElem?_take_of_lt (by omega)]; exact h1
    have ndP : ps.Nodup := by rw [← S.pre]; exact S.nd.sublist (List.take_sublist _ _)
    refine ⟨u, rv, ?_⟩
    rcases S.par y (List.mem_of_getElem? hp) with k | k
    · exact .inl ⟨k, bindL_get ndP hp hu k⟩
    · obtain ⟨c, e⟩ := cell_has (n := s.heap.objs.size + 1) k
      refine .inr ⟨.inl k, c, e, ?_⟩
      have q := x.cell y c e
      rw [bindC_get ndP hp hu (by show scope.names.lookup y ≠ _; rw [k]; decide)] at q
      exact q
  · exact e0.hok.fresh (Nat.le_of_lt (x.above y c (PySem.mem_of_lookup h)))
  · unfold start
    show _ = N.length
    rw [List.length_append, List.length_map, List.length_replicate]
    omega
theorem fn_of {CX : CXT} {P : Program} {w : World} {K : PySem.W.Frag} {mg : Str → Option Value} {base : Heap} {k : Nat} {f : Addr} {name qual : Str} {params : Arguments} {body : List Stmt} {scope : Scope} {dV kV doc pm cdv ct oc : Value} {an od : Option Addr}
    {osl : Array (Option Value)} {N ps : List Str} {sp : Sp} (lk : K.lookup f = some ⟨oc, od, .func (PySem.W.fnOf name qual params body scope dV kV doc pm an cdv ct), osl⟩) (hcd : PySem.W.codeIn K cdv qual = true) (S : FnScope N ps scope)
    (len : ∀ vs H Q E, sp vs H Q E → vs.length = ps.length)
    (hbody : ∀ (A : Around) (outer : List Env) (s : Shared) (H : Hp) (vs : List V) (Q : VK) (E : XK), Room k (A.deeper (envOfC qual scope s.heap.objs.size f cdv)) → sp vs H Q E →
      ∃ t, PSs (cxOf CX P w K mg base N qual scope f cdv A outer s H E) body t ∧ t { nx := fun _ H' => Q .non H', rt := Q } (start N vs) H) :
    FnOk P w K mg base CX (k + 1) f (PySem.W.fnOf name qual params body scope dV kV doc pm an cdv ct) ps sp := by
  refine ⟨len, fun A outer s H args us vs Q E hr e0 hb r hsp => ?_⟩
  have hl := len _ _ _ _ hsp
  have KX : K.In s.heap := e0.mod.kin.keeps fun b o e => (e0.bs b o e).1
  have lim : s.heap.NoLimit := e0.mod.nolimit.keeps fun b o e => (e0.bs b o e).1
  have hkind : ∀ y ∈ ps.zip us, scope.names.lookup y.1 = some .local ∨ (scope.names.lookup y.1 = some .cell ∧ ((cellsFrom (s.heap.objs.size + 1) scope.names []).lookup y.1).isSome = true) := fun ⟨n, v⟩ hy => by
    rcases S.par n (List.of_mem_zip hy).1 with q | q
    · exact .inl q
    · exact .inr ⟨q, PySem.W.cellsFrom_some _ _ _ (.inl q)⟩
  refine codeAny_call_function hr.depth (KX _ _ lk) rfl S.co S.gen rfl (PySem.W.codeRec_of KX hcd) (hb _ _ _ _ ?_)
  refine wpAny_newFunctionEnv_cells S.kind hkind fun env he s1 x => ?_
  subst he
  refine ⟨lim.keeps x.toInCall.keep, codeAny_func ?_⟩
  obtain ⟨t, ht, hq⟩ := hbody A outer s H vs Q E (hr.deeper _) hsp
  have I : Inv (cxOf CX P w K mg base N qual scope f cdv A outer s H E) [] (start N vs) H s1 := inv_start S hr.hd e0 hl r x
  refine wpAny_mono (ht [] s1 (start N vs) H _ I hq) (fun fl s' hs => ?_) fun e s' hs => hs
  have fin : ∀ {σ' : St} {H' : Hp} {v : V} {u : Value}, Inv (cxOf CX P w K mg base N qual scope f cdv A outer s H E) [] σ' H' s' → RelV v u → Q v H' → CE outer P w H s Q u s' :=
    fun {σ' H' v u} J rv q => ⟨v, H', J.os, J.bare, J.base, J.hok, rv, q⟩
  cases fl with
  | ret u =>
    obtain ⟨v, σ', H', J, rv, q⟩ := hs
    exact fin J rv q
  | next =>
    obtain ⟨σ', H', J, q⟩ := hs
    exact fin (v := V.non) (u := Value.none) J rfl q
  | brk =>
    obtain ⟨_, _, _, q⟩ := hs
    exact False.elim q
  | cont =>
    obtain ⟨_, _, _, q⟩ := hs
    exact False.elim q
end L2
namespace L2
open PySem PySem.Spec PyProof.Rows
section
variable {X : Cx} {x : Str} {p pos : Pos} {e : Expr} {es : List Expr} {t : TA} {id T : String} {r : List V → Hp → VK → Prop}
def tCB (r : List V → Hp → VK → Prop) (t : TA) : TE := fun σ H Q => t σ H fun vs H1 => r vs H1 Q
theorem pe_callB (hc : CallR X (.builtin id) r) (hg : Gl X x) (hm : X.mg x = none) (hv : bootBuiltins x = some (.builtin id)) (ha : PA X (e :: es) t) (hn : x ≠ "__name__" := by decide) (hdb : (x == ("__debug__" : Str)) = false := by decide)
    (he : starEach (e :: es) X.env = (false, eval e X.env) :: starEach es X.env := by rfl) (hpl : (backTo pos (starEach es X.env)).any (·.1) = false := by rfl) : PE X (.Call (.Name x p) (e :: es) [] pos) (tCB r t) := by
  intro pins s σ H Q I h
  refine wpAny_Call_Name_kw (ld_blt I hg hm hv ?_ hn hdb)
  exact PyProof.Rows.callWith_builtin1 (thn (ha pos pins s σ H _ I h) fun us s1 ⟨vs, H1, I1, r1, q1⟩ => hc pins s1 σ H1 vs us Q I1 r1 q1) he hpl
theorem pe_callTy (hc : CallR X (.type T) r) (hg : Gl X x) (hm : X.mg x = none) (hv : bootBuiltins x = some (.type T)) (ha : PA X (e :: es) t) (hn : x ≠ "__name__" := by decide) (hdb : (x == ("__debug__" : Str)) = false := by decide)
    (he : starEach (e :: es) X.env = (false, eval e X.env) :: starEach es X.env := by rfl) (hpl : (backTo pos (starEach es X.env)).any (·.1) = false := by rfl) : PE X (.Call (.Name x p) (e :: es) [] pos) (tCB r t) := by
  intro pins s σ H Q I h
  refine wpAny_Call_Name_kw (ld_blt I hg hm hv ?_ hn hdb)
  exact PyProof.Rows.callWith_type1 (thn (ha pos pins s σ H _ I h) fun us s1 ⟨vs, H1, I1, r1, q1⟩ => hc pins s1 σ H1 vs us Q I1 r1 q1) he hpl
end
end L2
namespace HT
open PySem PyProof.Rows
section
open PySem.SeqAt
open PySem.AutoSeq1 (wpAny_loadPart')
open PySem.MeetsSeq PySem.MeetsSeq2 PySem.MeetsSeq3
end
section
variable {prog : Program} {w : World} {A : Around} {E : Value → Shared → Prop} {s : Shared}
def sIx (n d : Nat) : Option Int → Nat
  | none => d
  | some v => if v < 0 then (v + (n : Int)).toNat else min v.toNat n
theorem sIx_none (n d : Nat) : sIx n d none = d := rfl
theorem sIx_nat (n d k : Nat) : sIx n d (some (k : Int)) = min k n := by
  show (if (k : Int) < 0 then ((k : Int) + (n : Int)).toNat else min (k : Int).toNat n) = min k n
  rw [if_neg (by omega), Int.toNat_natCast]
end
end HT
namespace L2
open PySem PySem.Spec PyProof.Rows
abbrev TO := St → Hp → (Option Int → Hp → Prop) → Prop
def PO (X : Cx) (e : Option Expr) (t : TO) : Prop :=
  ∀ (pins : List (Addr × Obj)) (s : Shared) (σ : St) (H : Hp) (Q : Option Int → Hp → Prop), Inv X pins σ H s → t σ H Q →
    wpAny (model X.prog X.w) X.A (evalPart e X.env) (fun u s' => ∃ o H', Inv X pins σ H' s' ∧ IsPart u o ∧ Q o H') X.xe s
def tNoPart : TO := fun _ H Q => Q none H
def tPart (t : TE) : TO := fun σ H Q => t σ H fun x H1 => ∃ i, x = .int i ∧ Q (some i) H1
section
variable {X : Cx} {e : Expr} {te : TE} {lo hi : Option Expr} {tl th : TO} {pos p2 : Pos}
theorem po_none : PO X none tNoPart := by
  intro pins s σ H Q I h
  rw [evalPart_none]
  exact wpAny_pure ⟨none, H, I, .none, h⟩
theorem po_some (h : PE X e te) : PO X (some e) (tPart te) := by
  intro pins s σ H Q I hw
  rw [evalPart_some]
  refine thn (h pins s σ H _ I hw) fun u s1 ⟨x, H1, I1, r1, q1⟩ => ?_
  obtain ⟨i, rfl, q⟩ := q1
  obtain ⟨t, rfl⟩ := r1
  exact ⟨some i, H1, I1, .int i t, q⟩
def SlR (X : Cx) (r : V → Option Int → Option Int → Hp → VK → Prop) : Prop :=
  ∀ (pins : List (Addr × Obj)) (s : Shared) (σ : St) (H : Hp) (x : V) (v vl vu : Value) (lo hi : Option Int) (sl : Addr) (Q : VK), Inv X pins σ H s → RelV x v → s.heap.IsSliceOf sl vl vu .none → IsPart vl lo → IsPart vu hi → r x lo hi H Q →
    ∃ T id, typeLookup (.type T) "__getitem__" = pure (some (.builtin id)) ∧ s.TypeIs v T ∧ wpAny (model X.prog X.w) X.A (getItem v (.ref sl)) (EP X pins σ Q) X.xe s
def tSl (r : V → Option Int → Option Int → Hp → VK → Prop) (te : TE) (tl th : TO) : TE := fun σ H Q => te σ H fun x H1 => tl σ H1 fun l H2 => th σ H2 fun u H3 => r x l u H3 Q
theorem pe_slice {r : V → Option Int → Option Int → Hp → VK → Prop} (hr : SlR X r) (he : PE X e te) (hl : PO X lo tl) (hu : PO X hi th) : PE X (.Subscript e (.Slice lo hi none p2) pos) (tSl r te tl th) := by
  intro pins s σ H Q I h
  refine Subscript_ (thn (he pins s σ H _ I h) fun v s1 ⟨x, H1, I1, r1, q1⟩ => ?_)
  refine wpAny_Slice (thn (hl pins s1 σ H1 _ I1 q1) fun vl s2 ⟨l, H2, I2, pl, q2⟩ => thn (hu pins s2 σ H2 _ I2 q2) fun vu s3 ⟨u, H3, I3, pu, q3⟩ => ?_)
  rw [evalPart_none]
  refine wpAny_pure ?_
  have I4 : Inv X pins σ H3 { s3 with heap := s3.heap.push { cls := .type "slice", data := .fields #[vl, vu, .none] } } := I3.kept (t' := s3.toks) fun b ob q => Heap.get?_push_of_some _ q
  obtain ⟨T, id, hT, ht, hg⟩ := hr pins { s3 with heap := s3.heap.push { cls := .type "slice", data := .fields #[vl, vu, .none] } } σ H3 x v vl vu l u s3.heap.objs.size Q I4 r1 (Heap.IsSliceOf.new ..) pl pu q3
  show wpAny (model X.prog X.w) X.A (subscriptTail e (.Slice lo hi none p2) v (.ref s3.heap.objs.size)) (EP X pins σ Q) X.xe { s3 with heap := s3.heap.push { cls := .type "slice", data := .fields #[vl, vu, .none] } }
  exact tail_any (ops := [.ref s3.heap.objs.size, v]) ht hT hg (by with_unfolding_all rfl)
def cutV (xs : List V) (lo hi : Option Int) : List V := (xs.drop (HT.sIx xs.length 0 lo)).take (HT.sIx xs.length xs.length hi - HT.sIx xs.length 0 lo)
theorem cutV_length (xs : List V) (lo hi : Option Int) : (cutV xs lo hi).length ≤ xs.length := by
  unfold cutV
  rw [List.length_take, List.length_drop]
  omega
end
end L2
namespace L2
open PySem PySem.Spec PyProof.Rows
def ixN (n : Nat) (i : Int) : Option Nat := if 0 ≤ i then (if i < n then some i.toNat else none) else if -(n : Int) ≤ i then some (i + n).toNat else none
def atI {α : Type} (xs : List α) (i : Int) : Option α := (ixN xs.length i).bind fun j => xs[j]?
theorem ixN_seq {n : Nat} {i : Int} {j : Nat} (h : ixN n i = some j) : seqIndex? i n = some j ∧ j < n ∧ -(n : Int) ≤ i ∧ i < n := by
  unfold ixN at h
  by_cases h0 : 0 ≤ i
  · rw [if_pos h0] at h
    by_cases h1 : i < n
    · rw [if_pos h1] at h
      have e : i.toNat = j := Option.some.inj h
      exact ⟨by rw [seqIndex_of h0 h1, e], by omega, by omega, h1⟩
    · rw [if_neg h1] at h; cases h
  · rw [if_neg h0] at h
    by_cases h1 : -(n : Int) ≤ i
    · rw [if_pos h1] at h
      have e : (i + n).toNat = j := Option.some.inj h
      exact ⟨by rw [seqIndex_neg (by omega) h1, e], by omega, h1, by omega⟩
    · rw [if_neg h1] at h; cases h
theorem atI_get {α : Type} {xs : List α} {i : Int} {v : α} (h : atI xs i = some v) : ∃ j, seqIndex? i xs.length = some j ∧ xs[j]? = some v ∧ j < xs.length ∧ -(xs.length : Int) ≤ i ∧ i < xs.length := by
  unfold atI at h
  cases e : ixN xs.length i with
  | none => rw [e] at h; cases h
  | some j =>
    rw [e] at h
    obtain ⟨h1, h2, h3, h4⟩ := ixN_seq e
    exact ⟨j, h1, h, h2, h3, h4⟩
theorem atI_nat {α : Type} {xs : List α} {j : Nat} {v : α} (h : xs[j]? = some v) : atI xs (j : Int) = some v := by
  have hj : j < xs.length := (List.getElem?_eq_some_iff.mp h).1
  have e : ixN xs.length (j : Int) = some j := by
    unfold ixN
    rw [if_pos (by omega), if_pos (by omega)]; simp
  unfold atI; rw [e]; exact h
theorem atI_last {α : Type} (xs : List α) (v : α) : atI (xs ++ [v]) (-1) = some v := by
  have hl : (xs ++ [v]).length = xs.length + 1 := by simp
  have e : ixN (xs ++ [v]).length (-1) = some xs.length := by
    unfold ixN
    rw [hl, if_neg (by decide), if_pos (by omega)]
    congr 1
    omega
  unfold atI
  rw [e]
  show (xs ++ [v])[xs.length]? = some v
  simp
def PlainIx (b : Expr) : Prop := ∀ o i, subscripted b false o i = operate [o, i] (getItem o i)
def IxR (X : Cx) (r : R2) : Prop :=
  ∀ (value slice : Expr) (pins : List (Addr × Obj)) (s : Shared) (σ : St) (H : Hp) (x y : V) (v u : Value) (Q : VK), Inv X pins σ H s → RelV x v → RelV y u → r x y H Q →
    subscripted slice false v u = operate [v, u] (getItem v u) → wpAny (model X.prog X.w) X.A (subscriptTail value slice v u) (EP X pins σ Q) X.xe s
def MtR (X : Cx) (id : String) (r : V → List V → Hp → VK → Prop) : Prop :=
  ∀ (pins : List (Addr × Obj)) (s : Shared) (σ : St) (H : Hp) (x : V) (xs : List V) (v : Value) (us : List Value) (Q : VK), Inv X pins σ H s → RelV x v → Vals xs us → r x xs H Q →
    wpAny (model X.prog X.w) X.A (call (.builtin id) (v :: us)) (EP X pins σ Q) X.xe s
section
variable {X : Cx} {a b : Expr} {ta tb : TE} {pos : Pos}
theorem pe_ix {r : R2} (hr : IxR X r) (ha : PE X a ta) (hb : PE X b tb) (hs : PlainIx b) : PE X (.Subscript a b pos) (tOp r ta tb) := by
  intro pins s σ H Q I h
  exact Subscript_ (binT ha hb I h fun v u s2 x y H2 I2 rx ry q => hr a b pins s2 σ H2 x y v u Q I2 rx ry q (hs _ _))
def rIxL (K : PySem.W.Frag) : R2 := fun x y H Q => ∃ p xs i v, x = .ref p ∧ y = .int i ∧ SqL K H p xs ∧ atI xs i = some v ∧ Q v H
def rIxT (K : PySem.W.Frag) : R2 := fun x y H Q => ∃ p xs i v, x = .ref p ∧ y = .int i ∧ SqT K H p xs ∧ atI xs i = some v ∧ Q v H
def rIxS : R2 := fun x y H Q => ∃ z i c, x = .str z ∧ y = .int i ∧ z.length ≤ sizeLine ∧ atI z.cps.toList i = some c ∧ Q (.str ⟨#[c]⟩) H
theorem ix_list : IxR X (rIxL X.K) := by
  intro value slice pins s σ H x y v u Q I rx ry h hs
  obtain ⟨p, xs, i, z, rfl, rfl, hq, he, q⟩ := h
  cases rx
  obtain ⟨t, rfl⟩ := ry
  obtain ⟨its, r, pl, hz⟩ := I.list hq
  obtain ⟨j, h1, h2, h3, h4, h5⟩ := atI_get he
  obtain ⟨w, ew, rw'⟩ := r.get h2
  have hl := r.length
  have hn := line63
  have fin : EP X pins σ Q w s := ⟨z, H, I, rw', q⟩
  by_cases h0 : 0 ≤ i
  · have hj : i.toNat = j := by
      rw [seqIndex_of h0 h5] at h1
      exact Option.some.inj h1
    exact item_listR pl.isList h0 (by omega) (by rw [hj]; simpa using ew) fin hs
  · have hj : (i + (its.toArray.size : Int)).toNat = j := by
      rw [seqIndex_neg (by omega) h4] at h1
      rw [List.size_toArray, ← hl]
      exact Option.some.inj h1
    exact subscriptTail_builtinR (x := w) pl.isList.typeIs slot_list_getitem.lookup
      (wpAny_getItem_list_neg (Q := fun r s' => r = w ∧ EP X pins σ Q r s') pl.isList (by omega) (by rw [List.size_toArray] <;> omega) (by omega) (by rw [hj]; simpa using ew) ⟨rfl, fin⟩) hs
theorem ix_tup : IxR X (rIxT X.K) := by
  intro value slice pins s σ H x y v u Q I rx ry h hs
  obtain ⟨p, xs, i, z, rfl, rfl, hq, he, q⟩ := h
  cases rx
  obtain ⟨t, rfl⟩ := ry
  obtain ⟨its, r, pl, hz⟩ := I.tuple hq
  obtain ⟨j, h1, h2, h3, h4, h5⟩ := atI_get he
  obtain ⟨w, ew, rw'⟩ := r.get h2
  have hl := r.length
  have hn := line63
  have fin : EP X pins σ Q w s := ⟨z, H, I, rw', q⟩
  exact subscriptTail_builtinR (x := w) pl.typeIs slot_tuple_getitem.lookup
    (getItem_tuple (j := j) (Q := fun r s' => r = w ∧ EP X pins σ Q r s') pl (by omega) (by omega) (by rw [List.size_toArray, ← hl]; exact h1) (by simpa using ew) ⟨rfl, fin⟩) hs
theorem ix_str : IxR X rIxS := by
  intro value slice pins s σ H x y v u Q I rx ry h hs
  obtain ⟨z, i, c, rfl, rfl, hz, he, q⟩ := h
  obtain ⟨t, rfl⟩ := rx
  obtain ⟨t', rfl⟩ := ry
  obtain ⟨j, h1, h2, h3, h4, h5⟩ := atI_get he
  have hl : z.cps.toList.length = z.length := by simp [Str.length]
  rw [hl] at h1 h4 h5
  have hn := line63
  exact tail_any (typeIs_str s z t) slot_str_getitem.lookup (getItem_str (c := c) (by
    have e1 : decide (i < -(2 ^ 63 : Int)) = false := decide_eq_false (by omega)
    have e2 : decide (i ≥ 2 ^ 63) = false := decide_eq_false (by omega)
    rw [e1, e2, Bool.or_false]) (by rw [h1]; simpa using h2) ⟨.str ⟨#[c]⟩, H, I.tok _, ⟨_, rfl⟩, q⟩) hs
theorem mapSeq_set (its : List Value) (n j : Nat) (u : Value) : Obj.mapSeq (·.setIfInBounds j u) { cls := .type "list", data := .seq its.toArray n } = { cls := .type "list", data := .seq (its.set j u).toArray n } := by
  simp [Obj.mapSeq]
theorem Inv.lst {pins : List (Addr × Obj)} {σ : St} {H : Hp} {s : Shared} {p : Addr} {xs : List V} (I : Inv X pins σ H s) (h : H p = some (.lst xs)) :
    ∃ (its : List Value) (n : Nat), Vals xs its ∧ s.heap.get? p = some { cls := .type "list", data := .seq its.toArray n } ∧ xs.length ≤ sizeLine := by
  obtain ⟨z, its, n, r, e⟩ := I.hok p _ h
  exact ⟨its, n, r, e, z⟩
theorem Inv.lstUpd {pins : List (Addr × Obj)} {σ : St} {H : Hp} {s : Shared} {p : Addr} {xs ys : List V} {its its' : List Value} {n n' : Nat} {f : Obj → Obj} (I : Inv X pins σ H s) (h : H p = some (.lst xs))
    (ho : s.heap.get? p = some { cls := .type "list", data := .seq its.toArray n }) (hf : f { cls := .type "list", data := .seq its.toArray n } = { cls := .type "list", data := .seq its'.toArray n' }) (r : Vals ys its') (hz : ys.length ≤ sizeLine) (t : Nat) :
    Inv X pins σ (upd H p (.lst ys)) { s with heap := s.heap.update p f, toks := t } := by
  have e : (s.heap.update p f).get? p = some { cls := .type "list", data := .seq its'.toArray n' } := by
    rw [Heap.get?_update_self f ho (by rw [hf] <;> rfl), hf]
  refine I.write (x := p) (e := p) (by rw [h]; trivial) (.inl rfl) (fun b u hb q => (Heap.get?_update_other _ _ (Ne.symm hb)).trans q) ⟨_, e⟩ ?_
  exact ⟨hz, its', n', r, e⟩
def rSetL : V → V → V → Hp → (Hp → Prop) → Prop := fun o i v H Q => ∃ p xs k j, o = .ref p ∧ i = .int k ∧ H p = some (.lst xs) ∧ ixN xs.length k = some j ∧ Q (upd H p (.lst (xs.set j v)))
theorem set_list : PSet X rSetL := by
  intro pins s σ H o i v ov iv u Q I ro ri rv h
  obtain ⟨p, xs, k, j, rfl, rfl, hp, hj, q⟩ := h
  cases ro
  obtain ⟨t, rfl⟩ := ri
  obtain ⟨its, n, r, ho, hz⟩ := I.lst hp
  obtain ⟨h1, h2, h3, h4⟩ := ixN_seq hj
  have hl := r.length
  have hn := line63
  have I' : Inv X pins σ (upd H p (.lst (xs.set j v))) { s with heap := s.heap.update p (Obj.mapSeq (·.setIfInBounds j u)) } :=
    I.lstUpd hp ho (mapSeq_set its n j u) (r.set rv j) (by rw [List.length_set]; exact hz) s.toks
  by_cases h0 : 0 ≤ k
  · have hk : k.toNat = j := by
      rw [seqIndex_of h0 h4] at h1
      exact Option.some.inj h1
    exact PySem.W.ki_setAt ho h0 (by omega) (by rw [List.size_toArray, ← hl]; exact h4) (by rw [hk]; exact ⟨_, I', q⟩)
  · have hk : (k + (its.toArray.size : Int)).toNat = j := by
      rw [seqIndex_neg (by omega) h3] at h1
      rw [List.size_toArray, ← hl]
      exact Option.some.inj h1
    exact PySem.W.ki_setBack ho (by omega) (by rw [List.size_toArray, ← hl]; exact h3) (by omega) (by rw [hk]; exact ⟨_, I', q⟩)
theorem slice_bounds (lo hi : Option Int) (n : Nat) : (sliceBounds lo hi none n).1 = ((HT.sIx n 0 lo : Nat) : Int) ∧ (sliceBounds lo hi none n).2.1 = ((HT.sIx n n hi : Nat) : Int) ∧ (sliceBounds lo hi none n).2.2 = 1 := by
  refine ⟨?_, ?_, rfl⟩
  · cases lo with
    | none => simp [sliceBounds, HT.sIx]
    | some i =>
      simp only [sliceBounds, HT.sIx, Option.getD_none, show (1 : Int) > 0 by decide, if_true]
      by_cases h : i < 0
      · simp only [h, if_true] <;> omega
      · simp only [h, if_false] <;> omega
  · cases hi with
    | none => simp [sliceBounds, HT.sIx]
    | some i =>
      simp only [sliceBounds, HT.sIx, Option.getD_none, show (1 : Int) > 0 by decide, if_true]
      by_cases h : i < 0
      · simp only [h, if_true] <;> omega
      · simp only [h, if_false] <;> omega
theorem slicePick_cut (its : List Value) (lo hi : Option Int) : slicePick its.toArray lo hi none = ((its.drop (HT.sIx its.length 0 lo)).take (HT.sIx its.length its.length hi - HT.sIx its.length 0 lo)).toArray := by
  obtain ⟨h1, h2, h3⟩ := slice_bounds lo hi its.toArray.size
  unfold slicePick
  rw [h1, h2, h3]
  simp only [sliceRange_one, pick_run, List.size_toArray] <;> rfl
def rSlL (K : PySem.W.Frag) : V → Option Int → Option Int → Hp → VK → Prop := fun x lo hi H Q => ∃ a xs, x = .ref a ∧ SqL K H a xs ∧ ∀ p, H p = none → Q (.ref p) (upd H p (.lst (cutV xs lo hi)))
theorem sl_list : SlR X (rSlL X.K) := by
  intro pins s σ H x v vl vu lo hi sl Q I rx hs pl pu h
  obtain ⟨a, xs, rfl, hx, q⟩ := h
  cases rx
  obtain ⟨its, r, ht, hz⟩ := I.list hx
  have hlen := r.length
  refine ⟨"list", _, slot_list_getitem.lookup, ht.isList.typeIs, ?_⟩
  refine wpAny_getItem_list_slice ht.isList hs pl pu .none (by simp) ?_ (by rw [List.size_toArray] <;> omega)
  rw [slicePick_cut, ← hlen]
  refine ⟨.ref s.heap.objs.size, _, I.laid (t' := s.toks) (o := .lst (cutV xs lo hi)) (fun b ob q => Heap.get?_push_of_some _ q) (Nat.le_refl _) ?_, rfl, q _ (I.hok.fresh (Nat.le_refl _))⟩
  exact ⟨Nat.le_trans (cutV_length xs lo hi) hz, _, 0, (r.drop (HT.sIx xs.length 0 lo)).take (HT.sIx xs.length xs.length hi - HT.sIx xs.length 0 lo), Heap.get?_push_size _ rfl⟩
def flatV : V → Bool
  | .non => true
  | .bl _ => true
  | .int _ => true
  | .str _ => true
  | _ => false
def eqV : V → V → Bool
  | .non, .non => true
  | .bl a, .bl b => a == b
  | .bl a, .int b => (if a then 1 else 0) == b
  | .int a, .bl b => a == (if b then 1 else 0)
  | .int a, .int b => a == b
  | .str a, .str b => a == b
  | _, _ => false
theorem eqAt_V {A : Around} {s : Shared} {y x : V} {u v : Value} (ry : RelV y u) (rx : RelV x v) (fy : flatV y = true) (fx : flatV x = true) : SeqAt.EqAt A s u v (eqV y x) := by
  cases y with
  | non =>
    cases ry
    cases x with
    | non => cases rx; exact SeqAt.EqAt.same _
    | bl b => cases rx; exact SeqAt.EqAt.none_bool b
    | int b => obtain ⟨t, rfl⟩ := rx; exact SeqAt.EqAt.none_int b t
    | str b => obtain ⟨t, rfl⟩ := rx; exact SeqAt.EqAt.none_str b t
    | _ => exact absurd (show false = true from fx) Bool.false_ne_true
  | bl a =>
    cases ry
    cases x with
    | non => cases rx; exact SeqAt.EqAt.bool_none a
    | bl b => cases rx; exact SeqAt.EqAt.bool_bool a b
    | int b => obtain ⟨t, rfl⟩ := rx; exact SeqAt.EqAt.bool_int a b t
    | str b => obtain ⟨t, rfl⟩ := rx; exact SeqAt.EqAt.bool_str a b t
    | _ => exact absurd (show false = true from fx) Bool.false_ne_true
  | int a =>
    obtain ⟨t', rfl⟩ := ry
    cases x with
    | non => cases rx; exact SeqAt.EqAt.int_none a t'
    | bl b => cases rx; exact SeqAt.EqAt.int_bool a t' b
    | int b => obtain ⟨t, rfl⟩ := rx; exact SeqAt.EqAt.int_int a t' b t
    | str b => obtain ⟨t, rfl⟩ := rx; exact SeqAt.EqAt.int_str a t' b t
    | _ => exact absurd (show false = true from fx) Bool.false_ne_true
  | str a =>
    obtain ⟨t', rfl⟩ := ry
    cases x with
    | non => cases rx; exact SeqAt.EqAt.str_none a t'
    | bl b => cases rx; exact SeqAt.EqAt.str_bool a t' b
    | int b => obtain ⟨t, rfl⟩ := rx; exact SeqAt.EqAt.str_int a t' b t
    | str b => obtain ⟨t, rfl⟩ := rx; exact SeqAt.EqAt.str_str a t' b t
    | _ => exact absurd (show false = true from fx) Bool.false_ne_true
  | _ => exact absurd (show false = true from fy) Bool.false_ne_true
theorem call_len_seq : CallR X (.builtin "len") (fun xs H Q => ∃ p ys, xs = [.ref p] ∧ (SqL X.K H p ys ∨ SqT X.K H p ys) ∧ Q (.int ys.length) H) := by
  intro pins s σ H xs us Q I r h
  obtain ⟨p, ys, rfl, hq, q⟩ := h
  obtain ⟨u, rfl, rx⟩ := vals1 r
  cases rx
  have hn := line63
  rcases hq with hq | hq
  · obtain ⟨its, r', pl, hz⟩ := I.list hq
    have hlen := r'.length
    exact Calls.call_len_list pl.isList (by simp only [List.size_toArray] <;> omega) ⟨.int ys.length, H, I.tok _, ⟨s.toks + 1, by rw [List.size_toArray, hlen]⟩, q⟩
  · obtain ⟨its, r', pl, hz⟩ := I.tuple hq
    have hlen := r'.length
    exact len_tuple pl (by simp only [List.size_toArray] <;> omega) ⟨.int ys.length, H, I.tok _, ⟨s.toks + 1, by rw [List.size_toArray, hlen]⟩, q⟩
theorem call_len_str : CallR X (.builtin "len") (fun xs H Q => ∃ z, xs = [.str z] ∧ z.length ≤ sizeLine ∧ Q (.int z.length) H) := by
  intro pins s σ H xs us Q I r h
  obtain ⟨z, rfl, hz, q⟩ := h
  obtain ⟨u, rfl, t, rfl⟩ := vals1 r
  have hn := line63
  exact len_str (by omega) ⟨.int z.length, H, I.tok _, ⟨_, rfl⟩, q⟩
theorem call_list_of : CallR X (.type "list") (fun xs H Q => ∃ p ys, xs = [.ref p] ∧ (SqL X.K H p ys ∨ SqT X.K H p ys) ∧ ∀ l, H l = none → Q (.ref l) (upd H l (.lst ys))) := by
  intro pins s σ H xs us Q I r h
  obtain ⟨p, ys, rfl, hq, q⟩ := h
  obtain ⟨u, rfl, rx⟩ := vals1 r
  cases rx
  have fin : ∀ (its : List Value), Vals ys its → ys.length ≤ sizeLine → ∀ (h' : Heap) (c' : Nat), (∀ b o', s.heap.get? b = some o' → h'.get? b = some o') →
      h'.get? s.heap.objs.size = some { cls := .type "list", dict := none, data := .seq its.toArray c', slots := #[] } → EP X pins σ Q (.ref s.heap.objs.size) { s with heap := h' } := fun its r' hz h' c' kp e =>
    ⟨.ref s.heap.objs.size, _, I.laid (t' := s.toks) kp (Nat.le_refl _) (show ObjOk X.prog X.w _ h' _ (.lst ys) from ⟨hz, its, c', r', e⟩), rfl, q _ (I.hok.fresh (Nat.le_refl _))⟩
  rcases hq with hq | hq
  · obtain ⟨its, r', pl, hz⟩ := I.list hq
    have hlen := r'.length
    obtain ⟨o, ho, hc, n, hd⟩ := pl.isList
    exact call_list_seq p (.inl rfl) ho hc hd (fun h' c' kp e => fin its r' hz h' c' kp e) (by simp only [List.size_toArray] <;> omega)
  · obtain ⟨its, r', pl, hz⟩ := I.tuple hq
    have hlen := r'.length
    obtain ⟨o, ho, hc, n, hd⟩ := pl
    exact call_list_seq p (.inr rfl) ho hc hd (fun h' c' kp e => fin its r' hz h' c' kp e) (by simp only [List.size_toArray] <;> omega)
def tyV (K : PySem.W.Frag) (T : String) (x : V) (H : Hp) : Prop := match x with
  | .str _ => T = "str"
  | .int _ => T = "int"
  | .ref p => (T = "list" ∧ ∃ xs, SqL K H p xs) ∨ (T = "tuple" ∧ ∃ o, K.lookup p = some o ∧ o.cls = .type "tuple" ∧ o.dict = none) ∨
      (T = "dict" ∧ ((∃ kvs, H p = some (.dK kvs)) ∨ ∃ kvs, H p = some (.dT kvs))) ∨ (T = "set" ∧ ∃ S n, H p = some (.set S n))
  | _ => False
theorem tyV_is {pins : List (Addr × Obj)} {σ : St} {H : Hp} {s : Shared} {T : String} {x : V} {v : Value} (I : Inv X pins σ H s) (r : RelV x v) (ty : tyV X.K T x H) :
    s.TypeIs v T ∧ ∀ a, v = .ref a → ∃ ob, s.heap.get? a = some ob ∧ ob.dict = none := by
  cases x with
  | str z =>
    obtain ⟨t, rfl⟩ := r
    cases (show T = "str" from ty)
    exact ⟨typeIs_str s z t, fun _ e => nomatch e⟩
  | int i =>
    obtain ⟨t, rfl⟩ := r
    cases (show T = "int" from ty)
    exact ⟨typeIs_int s i t, fun _ e => nomatch e⟩
  | ref p =>
    cases r
    rcases ty with ⟨rfl, xs, hq⟩ | ⟨rfl, o, hk, hc, hd⟩ | ⟨rfl, hk⟩ | ⟨rfl, S, n, hk⟩
    · obtain ⟨its, _, pl, _⟩ := I.list hq
      refine ⟨pl.isList.typeIs, fun a e => ?_⟩
      cases e
      obtain ⟨o, n, e, c, hd, _⟩ := pl
      exact ⟨o, e, hd⟩
    · refine ⟨⟨o, I.kIn p o hk, hc⟩, fun a e => ?_⟩
      cases e
      exact ⟨o, I.kIn _ o hk, hd⟩
    · have z : ∃ o, s.heap.get? p = some o ∧ o.ExactDict := by
        rcases hk with ⟨kvs, hk⟩ | ⟨kvs, hk⟩
        · obtain ⟨_, _, _, _, o, _, _, e, ex, _⟩ := I.hok p _ hk
          exact ⟨o, e, ex⟩
        · obtain ⟨_, _, _, _, o, _, _, e, ex, _⟩ := I.hok p _ hk
          exact ⟨o, e, ex⟩
      obtain ⟨o, e, ex⟩ := z
      refine ⟨⟨o, e, ex.1⟩, fun a e2 => ?_⟩
      cases e2
      exact ⟨o, e, ex.2.1⟩
    · obtain ⟨o, _, _, _, e, ex, _⟩ := I.hok p _ hk
      refine ⟨⟨o, e, ex.1⟩, fun a e2 => ?_⟩
      cases e2
      exact ⟨o, e, ex.2.1⟩
  | _ => exact False.elim ty
def tBM (K : PySem.W.Frag) (T : String) (r : V → List V → Hp → VK → Prop) (to : TE) (t : TA) : TE := fun σ H Q => to σ H fun x H1 => tyV K T x H1 ∧ t σ H1 fun xs H2 => r x xs H2 Q
variable {o e : Expr} {es : List Expr} {to : TE} {t : TA} {name : Str} {apos cpos : Pos} {T id : String} {r : V → List V → Hp → VK → Prop}
theorem pe_bm (pa : PlainAttrs T) (slot : Slot T name id) (hty : typeOf (.builtin id) = pure (.type "method_descriptor")) (hm : MtR X id r) (ho : PE X o to) (ha : PA X (e :: es) t)
    (hbase : attributeBase o name X.env (eval o X.env) = eval o X.env := by rfl)
    (hfew : ((backTo cpos (starEach (e :: es) X.env)).all (fun x => !x.1) && (backToKw cpos (keywordEach [] X.env)).all (fun x => x.1.isSome)
      && decide ((e :: es).length + ([] : List Keyword).length + (if ([] : List Keyword).isEmpty then 0 else 1) < 30)) = true := by rfl)
    (hline : (apos.endLine == cpos.line) = true := by rfl) (hs : starEach (e :: es) X.env = (false, eval e X.env) :: starEach es X.env := by rfl) (hplain : (backTo cpos (starEach es X.env)).any (·.1) = false := by rfl) :
    PE X (.Call (.Attribute o name apos) (e :: es) [] cpos) (tBM X.K T r to t) := by
  intro pins s σ H Q I h
  refine wpAny_Call_method_late hbase hfew hline rfl (thn (ho pins s σ H _ I h) fun v s1 ⟨x, H1, I1, r1, ty, q1⟩ => ?_)
  obtain ⟨h1, h2⟩ := tyV_is I1 r1 ty
  refine ⟨T, id, pa, slot, hty, h1, h2, ?_⟩
  have hA := ha cpos pins s1 σ H1 _ I1 q1
  rw [hs] at hA ⊢
  refine Calls.callWith_builtin (by show (false || (backTo cpos (starEach es X.env)).any (·.1)) = false; rw [hplain] <;> rfl) (Calls.evalArgs_plain ?_)
  exact thn hA fun us s2 ⟨vs, H2, I2, r2, q2⟩ => hm pins s2 σ H2 x vs v us Q I2 r1 r2 q2
end
end L2
namespace L2
open PySem PySem.Spec PyProof.Rows
def MtM (X : Cx) (id : String) (r : V → List V → Hp → VK → Prop) : Prop :=
  ∀ (pins : List (Addr × Obj)) (s : Shared) (σ : St) (H : Hp) (x : V) (xs : List V) (v : Value) (us : List Value) (Q : VK), Inv X pins σ H s → RelV x v → Vals xs us → r x xs H Q →
    wpAny (model X.prog X.w) X.A (call (.builtin id) (v :: us)) (EP X pins σ Q) X.xe s
theorem Vals.one : ∀ {x : V} {us : List Value}, Vals [x] us → ∃ u, us = [u] ∧ RelV x u
  | _, _, .cons r .nil => ⟨_, rfl, r⟩
section
variable {X : Cx} {pins : List (Addr × Obj)} {σ : St} {H : Hp} {s : Shared} {l b : Addr} {xs ys zs : List V}
theorem Inv.lset {its its' : List Value} {n : Nat} {f : Array Value → Array Value} {t' : Nat} (I : Inv X pins σ H s) (hH : H l = some (.lst xs))
    (e : s.heap.get? l = some { cls := .type "list", data := .seq its.toArray n }) (hf : f its.toArray = its'.toArray) (hv : Vals ys its') (hz : ys.length ≤ sizeLine) :
    Inv X pins σ (upd H l (.lst ys)) { s with heap := s.heap.update l (Obj.mapSeq f), toks := t' } := by
  have q := PySem.IsL.update e f
  rw [hf] at q
  refine I.write (x := l) (e := l) (by rw [hH]; exact trivial) (.inl rfl) (fun b' u hb hu => (Heap.get?_update_other s.heap (Obj.mapSeq f) (Ne.symm hb)).trans hu) ⟨_, q⟩ ?_
  exact ⟨hz, its', _, hv, q⟩
theorem Inv.lstM (I : Inv X pins σ H s) (hH : H l = some (.lst xs)) : xs.length ≤ sizeLine ∧ ∃ (its : List Value) (n : Nat), Vals xs its ∧ xs.length = its.length ∧ s.heap.get? l = some { cls := .type "list", data := .seq its.toArray n } := by
  obtain ⟨z, its, n, r, e⟩ := I.hok l _ hH
  exact ⟨z, its, n, r, r.length, e⟩
end
section
variable {X : Cx}
def rAppend : V → List V → Hp → VK → Prop := fun x vs H Q => ∃ l xs y, x = .ref l ∧ vs = [y] ∧ H l = some (.lst xs) ∧ xs.length < sizeLine ∧ Q .non (upd H l (.lst (xs ++ [y])))
theorem mt_append : MtM X "list.append" rAppend := by
  intro pins s σ H x vs v us Q I rx rv h
  obtain ⟨l, xs, y, rfl, rfl, hH, hz, q⟩ := h
  cases rx
  obtain ⟨u, rfl, ru⟩ := rv.one
  obtain ⟨z, its, n, r, hl, e⟩ := I.lstM hH
  refine call_meets F.slot_list_append ⟨_, e, rfl⟩ F.entry_list_append (F.args_list_append_2 _ _) (PySem.list_append l its.toArray n u (by rw [List.size_toArray]; omega)) ⟨e, ?_⟩
  refine ⟨.non, _, I.lset (its' := its ++ [u]) hH e (by simp) (r.append (.cons ru .nil)) ?_, rfl, q⟩
  rw [List.length_append, List.length_singleton]
  omega
end
section
variable {prog : Program} {w : World} {A : Around} {E : Value → Shared → Prop} {s : Shared}
end
section
variable {X : Cx}
end
end L2
namespace Att
open PySem PySem.W PySem.Calls PyProof.Rows
theorem ints_of_wellAll {P : Params} {h : Heap} : ∀ (ns : List Int) (vs : List Value), WellAll P h vs (ns.map WData.int) → IntsAre vs ns := by
  intro ns
  induction ns with
  | nil =>
    intro vs w
    rw [List.map_nil] at w
    cases w
    exact .nil
  | cons n ns ih =>
    intro vs w
    rw [List.map_cons] at w
    cases w with
    | cons a b =>
      cases a
      exact .cons _ _ (ih _ b)
theorem script_of {l : OpenLaw} {n : Nat} (hn : l.most = some n) {P : Params} {h : Heap} {args : List WData} {vals : List Value}
    (hpre : l.row.toRowW.claim.pre args = true) (hwl : WellAll P h vals args) :
    ∃ a vs ns, vals = [Value.ref a] ∧ args = [WData.list (ns.map WData.int)] ∧ h.get? a = some { cls := .type "list", data := .seq vs.toArray } ∧ IntsAre vs ns ∧ ns.length ≤ n := by
  have hsh : WShape.hasAll [] args [.list .int] = true := (pre_splitW hpre).1
  have hc : l.pre.holds [] { args := args } = true := (pre_splitW hpre).2
  obtain ⟨d, r, rfl, h1, h2⟩ := hasAllW_cons hsh
  obtain rfl := hasAllW_nil h2
  obtain ⟨xs, rfl, h3⟩ := hasW_list h1
  obtain ⟨ns, rfl⟩ := items_int h3
  have hlen : ns.length ≤ n := by
    unfold OpenLaw.pre at hc
    have h4 : (WTm.not (.lt (.lit (.int (n : Int))) (.len (.arg 0)))).holds [] { args := [.list (ns.map .int)] } = true := by
      have h4 := (holds_andW hc).1
      rw [hn] at h4
      exact h4
    have h5 := condW_of h4 (w_not (w_lt w_lit (w_len_list (w_arg rfl))))
    rw [List.length_map] at h5
    refine Nat.le_of_not_lt fun q => ?_
    have q' : (n : Int) < ((ns.length : Nat) : Int) := by omega
    first
      | (rw [decide_eq_true q'] at h5; exact absurd h5 (by decide))
      | (simp at h5; omega)
  cases hwl with
  | cons w1 w2 =>
    cases w2
    cases w1 with
    | list ho hall => exact ⟨_, _, ns, rfl, rfl, ho, ints_of_wellAll ns _ hall, hlen⟩
theorem post_true (l : OpenLaw) (args : List WData) : l.row.toRowW.claim.post args (.bool true) args = true :=
  postW_of (r := l.row.toRowW) (X := (true == true))
    (show WShape.has [] (.bool true) .bool = true by first | rfl | decide | simp [WShape.has, WShape.arms, WShape.armsAll])
    (show (WTm.eq .res (.lit (.bool true))).value [] { args := args, res := some (.bool true), after := args } = some (.bool (true == true)) from w_eq_bool (w_res rfl) w_lit) rfl
theorem attach_call {l : OpenLaw} {n : Nat} {q : Program} {loose : List Str} {XP : (Str → Option Value) → Heap → Prop} {YP : World → Heap → Prop} {d : DefRec}
    (hn : l.most = some n) (hdf : d.params.defaults = [])
    (call : ∀ (w : World) (s₀ s₁ : Shared) (mg mb : Str → Option Value) (fa : Addr) (o : Obj) (pm cd doc : Value) (a : Addr) (vs : List Value) (ns : List Int),
      Ground q loose [] XP w s₀ mg mb s₁.heap → YP w s₁.heap →
      s₁.heap.get? fa = some o → o.data = .func (docDef d.name d.params d.body d.scope pm cd doc) → s₁.heap.CodeRec cd d.name → mg d.name = some (.ref fa) →
      s₁.heap.get? a = some { cls := .type "list", data := .seq vs.toArray } → IntsAre vs ns → ns.length ≤ n → s₁.gens = #[] →
      codeAny (model l.prog w) callerA (.call (.ref fa) ⟨[.ref a], []⟩) (fun r s' => r = .ok (.ret (.bool true)) ∧ OldK s₁.heap s'.heap ∧ s'.os = s₁.os ∧ AllBare s'.gens) s₁) :
    WalkO q loose XP YP l.row.toRowW d [] (fun f vs => PySem.call f vs) := by
  intro w s₀ s₁ mg mb G Y fa o pm cd doc dV kV ho hd hcd hD hmg hg args vals as hpre hlay hrd hwl hlo
  obtain rfl : dV = .none := Dflts.none hD hdf
  obtain rfl : kV = .none := Dflts.noKw hD
  obtain ⟨a, vs, ns, rfl, rfl, hobj, hints, hlen⟩ := script_of hn hpre hwl
  refine enter_call (codeAny_mono (call w s₀ s₁ mg mb fa o pm cd doc a vs ns G Y ho (fd_plain hd) hcd hmg hobj hints hlen hg) fun r s' hq => ?_)
  obtain ⟨rfl, h2, h3, h4⟩ := hq
  exact ⟨.inl ⟨.bool true, .bool true, [], rfl, fun _ => rfl, .bool true, post_true l _, fun _ => ⟨List.Pairwise.nil, fun _ hm => (nomatch hm)⟩⟩, h2, h3, h4⟩
section
variable {prog : Program} {w : World} {A : Around} {E : Value → Shared → Prop} {s : Shared} {K : Frag}
end
end Att
namespace L2
open PySem PySem.Spec PyProof.Rows
theorem vals_ints : ∀ {vs : List Value} {ns : List Int}, IntsAre vs ns → Vals (ns.map V.int) vs
  | _, _, .nil => .nil
  | _, _, .cons n t h => .cons ⟨t, rfl⟩ (vals_ints h)
def Only (H : Hp) : Prop := ∀ b, H b = none ∨ ∃ o xs, H b = some (.frz o (.lst xs))
theorem law_call {P : Program} {w : World} {K : PySem.W.Frag} {mg mb : Str → Option Value} {CX : CXT} {k : Nat} {fa a : Addr} {fd : FuncData} {x : Str} {sp : Sp} {s₁ : Shared} {vs : List Value} {ns : List Int}
    (KX : K.In s₁.heap) (hns : s₁.heap.Ns mainGlobals mg) (hb : s₁.heap.Ns builtinsNs mb) (hbb : ∀ x : Str, x ≠ "__name__" → mb x = bootBuiltins x) (hlim : s₁.heap.NoLimit) (hg : s₁.gens = #[])
    (ha : s₁.heap.get? a = some { cls := .type "list", data := .seq vs.toArray }) (hi : IntsAre vs ns) (hl : ns.length ≤ sizeLine) (hr : Room k callerA)
    (F : ∀ base : Heap, K.In base → base.Ns mainGlobals mg → FnOk P w K mg base CX k fa fd [x] sp) (hbind : ∀ (s : Shared) (u : Value), BindsTo s fd ⟨[u], []⟩ [(x, u)])
    (hsp : ∀ H : Hp, Only H → SqL K H a (ns.map V.int) → sp [.ref a] H (fun v _ => v = .bl true) fun _ _ _ => False)
    (hCX : ∀ H e s', CX [] H s₁ (fun _ _ _ => False) e s' → False) :
    codeAny (model P w) callerA (.call (.ref fa) ⟨[.ref a], []⟩) (fun r s' => r = .ok (.ret (.bool true)) ∧ OldK s₁.heap s'.heap ∧ s'.os = s₁.os ∧ AllBare s'.gens) s₁ := by
  have rv := vals_ints hi
  have lenV := hi.length
  -- from an abstract heap in which nothing but the script may be tracked
  have core : ∀ H : Hp, Only H → SqL K H a (ns.map V.int) → HOk P w H s₁.heap → (∀ b, H b ≠ none → b = a) → (H a ≠ none → K.lookup a = none) →
      codeAny (model P w) callerA (.call (.ref fa) ⟨[.ref a], []⟩) (fun r s' => r = .ok (.ret (.bool true)) ∧ OldK s₁.heap s'.heap ∧ s'.os = s₁.os ∧ AllBare s'.gens) s₁ := by
    intro H hO hS hok hA hK
    have base_of : ∀ {b : Addr} {o : Obj}, s₁.heap.get? b = some o → H b = none → (hidT s₁.heap H).get? b = some o := fun e n => hidT_get e n
    have noA : ∀ {b : Addr} {o : Obj} {es : Array DictEntry} {ep : Nat}, s₁.heap.get? b = some o → o.data = .dict es ep → H b = none := fun {b o es ep} e d => by
      cases q : H b with
      | none => rfl
      | some u =>
        have e' : b = a := hA b (by rw [q]; simp)
        subst e'
        rw [ha] at e; cases e
        have d' : Data.seq vs.toArray _ = Data.dict es ep := d
        cases d'
    have nsK : ∀ {b : Addr} {m : Str → Option Value}, s₁.heap.Ns b m → (hidT s₁.heap H).Ns b m := fun {b m} ⟨o, es, ep, e, d, r⟩ => ⟨o, es, ep, base_of e (noA e d), d, r⟩
    have hKb : K.In (hidT s₁.heap H) := fun b o e => base_of (KX b o e) (by
      cases q : H b with
      | none => rfl
      | some u =>
        have e' : b = a := hA b (by rw [q]; simp)
        subst e'
        rw [hK (by rw [q]; simp)] at e; cases e)
    have hM : Mod K mg (hidT s₁.heap H) := ⟨hKb, nsK hns, ⟨mb, nsK hb, hbb⟩, let ⟨mc, h1, h2⟩ := hlim; ⟨mc, nsK h1, h2⟩⟩
    have e0 : Env0 P w K mg (hidT s₁.heap H) callerA [] s₁ H := ⟨rfl, hM, fun b o e => of_hidT e, Nat.le_of_eq (hidT_size _ _), trivial, fun b hb => absurd (show b ∈ ([] : List Addr) from hb) (by simp), hok, .of_eq hg⟩
    refine codeAny_mono ((F _ hKb (nsK hns)).run callerA [] s₁ H ⟨[.ref a], []⟩ [.ref a] [.ref a] _ _ hr e0 (hbind s₁ (.ref a)) (.cons rfl .nil) (hsp H hO hS)) fun r s' h => ?_
    cases r with
    | error e => exact (hCX H e s' h).elim
    | ok fl =>
      cases fl with
      | next => exact False.elim h
      | brk => exact False.elim h
      | cont => exact False.elim h
      | ret u =>
        obtain ⟨v, H', os, bare, un, hok', r', q⟩ := h
        have q' : v = .bl true := q
        subst q'
        obtain rfl : u = Value.bool true := r'
        refine ⟨rfl, OldK.of_keep fun b o e => ?_, os, bare⟩
        cases q : H b with
        | none => exact un.keep b o e q (by intro z; exact absurd (show b ∈ ([] : List Addr) from z) (by simp)) (by simp)
        | some u =>
          rcases hO b with z | ⟨ob, xs, z⟩
          · rw [q] at z; cases z
          · have z2 := un.frzs b ob _ z
            obtain ⟨e1, _⟩ := hok b _ z
            obtain ⟨e2, _⟩ := hok' b _ z2
            rw [e] at e1; cases e1
            exact e2
  cases hk : K.lookup a with
  | some o =>
    -- the script is one of the module's own objects
    have e := KX a o hk
    rw [ha] at e
    cases e
    refine core (fun _ => none) (fun _ => .inl rfl) (.inr ⟨_, vs.toArray, _, hk, rfl, rfl, rfl, by rw [List.size_toArray, lenV]; exact hl, by simpa using rv⟩) (fun b u z => by have z' : (none : Option HO) = some u := z; cases z') (fun b z => absurd rfl z) fun z => absurd rfl z
  | none =>
    refine core (fun b => if b = a then some (.frz { cls := .type "list", data := .seq vs.toArray } (.lst (ns.map V.int))) else none) (fun b => ?_) (.inl (.inr ⟨{ cls := .type "list", data := .seq vs.toArray }, if_pos rfl⟩)) (fun b u z => ?_) (fun b z => ?_) fun _ => hk
    · by_cases hb : b = a
      · exact .inr ⟨_, _, if_pos hb⟩
      · exact .inl (if_neg hb)
    · by_cases hb : b = a
      · have z' := (if_pos hb).symm.trans z
        cases z'
        subst hb
        exact ⟨ha, by rw [List.length_map]; exact hl, vs, _, rv, ha⟩
      · have z' := (if_neg hb).symm.trans z
        cases z'
    · by_cases hb : b = a
      · exact hb
      · exact absurd (if_neg hb) z
end L2
namespace L2
open PySem PySem.Spec PyProof.Rows
theorem walk_of {l : PySem.W.OpenLaw} {n k : Nat} {q : Program} {loose : List Str} {XP : (Str → Option Value) → Heap → Prop} {YP : World → Heap → Prop} {d : DefRec} {K : Params → PySem.W.Frag} {CX : World → CXT} {sp : World → Sp} {x : Str}
    (hn : l.most = some n) (hn2 : n ≤ sizeLine) (hdf : d.params.defaults = []) (hr : Room k callerA)
    (hY : ∀ (w : World) (h : Heap), YP w h → (K w.params).In h)
    (F : ∀ (w : World) (mg : Str → Option Value) (fa : Addr) (h : Heap), (K w.params).In h → h.Ns mainGlobals mg → mg d.name = some (.ref fa) →
      ∃ fd : FuncData, (∀ (s : Shared) (u : Value), BindsTo s fd ⟨[u], []⟩ [(x, u)]) ∧
        ∀ base : Heap, (K w.params).In base → base.Ns mainGlobals mg → FnOk l.prog w (K w.params) mg base (CX w) k fa fd [x] (sp w))
    (hsp : ∀ (w : World) (H : Hp) (a : Addr) (ns : List Int), ns.length ≤ n → Only H → SqL (K w.params) H a (ns.map V.int) → sp w [.ref a] H (fun v _ => v = .bl true) fun _ _ _ => False)
    (hCX : ∀ (w : World) (H : Hp) (s : Shared) (e : Value) (s' : Shared), CX w [] H s (fun _ _ _ => False) e s' → False) :
    PySem.W.WalkO q loose XP YP l.row.toRowW d [] (fun f vs => PySem.call f vs) := by
  refine Att.attach_call hn hdf fun w s₀ s₁ mg mb fa o pm cd doc a vs ns G Y ho hd hcd hmg hobj hints hlen hg => ?_
  have KX := hY w _ Y
  obtain ⟨fd, hb, hF⟩ := F w mg fa _ KX G.T.g hmg
  exact law_call KX G.T.g G.T.b G.T.builtins G.T.nolimit hg hobj hints (Nat.le_trans hlen hn2) hr hF hb (fun H hO hS => hsp w H a ns hlen hO hS) fun H e s' => hCX w H s₁ e s'
theorem walk_ofK {l : PySem.W.OpenLaw} {n k : Nat} {q : Program} {loose : List Str} {XP : (Str → Option Value) → Heap → Prop} {YP : World → Heap → Prop} {d : DefRec} {K : Params → PySem.W.Frag} {CX : CXT} {sp : PySem.W.Frag → Sp} {x : Str}
    (hn : l.most = some n) (hn2 : n ≤ sizeLine) (hdf : d.params.defaults = []) (hr : Room k callerA)
    (hY : ∀ (w : World) (h : Heap), YP w h → (K w.params).In h)
    (F : ∀ (w : World) (mg : Str → Option Value) (fa : Addr) (h : Heap), (K w.params).In h → h.Ns mainGlobals mg → mg d.name = some (.ref fa) →
      ∃ fd : FuncData, (∀ (s : Shared) (u : Value), BindsTo s fd ⟨[u], []⟩ [(x, u)]) ∧
        ∀ base : Heap, (K w.params).In base → base.Ns mainGlobals mg → FnOk l.prog w (K w.params) mg base CX k fa fd [x] (sp (K w.params)))
    (hsp : ∀ (K : PySem.W.Frag) (H : Hp) (a : Addr) (ns : List Int), ns.length ≤ n → Only H → SqL K H a (ns.map V.int) → sp K [.ref a] H (fun v _ => v = .bl true) fun _ _ _ => False)
    (hCX : ∀ (H : Hp) (s : Shared) (e : Value) (s' : Shared), CX [] H s (fun _ _ _ => False) e s' → False) :
    PySem.W.WalkO q loose XP YP l.row.toRowW d [] (fun f vs => PySem.call f vs) :=
  walk_of (K := K) (CX := fun _ => CX) (sp := fun w => sp (K w.params)) hn hn2 hdf hr hY F (fun w H a ns h1 h2 h3 => hsp (K w.params) H a ns h1 h2 h3) fun _ H s e s' => hCX H s e s'
end L2
namespace L2
open PySem PySem.Spec PyProof.Rows
def defArgs (s : Stmt) : Arguments := match s with
  | .FunctionDef _ a _ _ _ _ _ _ _ _ => a
  | _ => { posonlyargs := [], args := [], vararg := none, kwonlyargs := [], kw_defaults := [], kwarg := none, defaults := [] }
def defBody (s : Stmt) : List Stmt := match s with
  | .FunctionDef _ _ b _ _ _ _ _ _ _ => b
  | _ => []
def defScope (s : Stmt) : Scope := match s with
  | .FunctionDef _ _ _ _ _ _ sc _ _ _ => sc
  | _ => { kind := .function, names := [], isGenerator := false, isCoroutine := false }
abbrev CX0 : CXT := fun _ _ _ _ _ _ => False
abbrev E0 : XK := fun _ _ _ => False
theorem pass0 {X : Cx} : Passes CX0 X E0 := fun _ _ _ _ _ _ _ h => h.elim
structure Fun (K : PySem.W.Frag) (x qual : Str) (st : Stmt) (f : Addr) (fd : FuncData) : Prop where
  ex : ∃ (oc : Value) (od : Option Addr) (kV doc pm : Value) (an : Option Addr) (cdv ct : Value) (osl : Array (Option Value)),
    fd = PySem.W.fnOf x qual (defArgs st) (defBody st) (defScope st) .none kV doc pm an cdv ct ∧ K.lookup f = some ⟨oc, od, .func fd, osl⟩ ∧ PySem.W.codeIn K cdv qual = true
  kp : PySem.W.keepIn K (.ref f) = true
section
variable {P : Program} {w : World} {K : PySem.W.Frag} {mg : Str → Option Value} {base : Heap}
theorem Fun.ok {x qual : Str} {st : Stmt} {f : Addr} {fd : FuncData} {N ps : List Str} {k : Nat} {sp : Sp} (F : Fun K x qual st f fd) (S : FnScope N ps (defScope st)) (len : ∀ vs H Q E, sp vs H Q E → vs.length = ps.length)
    (hbody : ∀ (cdv : Value) (A : Around) (outer : List Env) (s : Shared) (H : Hp) (vs : List V) (Q : VK) (E : XK), Room k (A.deeper (envOfC qual (defScope st) s.heap.objs.size f cdv)) → sp vs H Q E →
      ∃ t, PSs (cxOf CX0 P w K mg base N qual (defScope st) f cdv A outer s H E).nox (defBody st) t ∧ t { nx := fun _ H' => Q .non H', rt := Q } (start N vs) H) : FnOk P w K mg base CX0 (k + 1) f fd ps sp := by
  obtain ⟨oc, od, kV, doc, pm, an, cdv, ct, osl, rfl, lk, hcd⟩ := F.ex
  refine fn_of lk hcd S len fun A outer s H vs Q E hr hsp => ?_
  obtain ⟨t, h, q⟩ := hbody cdv A outer s H vs Q E hr hsp
  exact ⟨t, h.nox, q⟩
theorem Fun.binds {x qual : Str} {st : Stmt} {f : Addr} {fd : FuncData} {ps : List Str} (F : Fun K x qual st f fd)
    (h : ∀ (kV doc pm : Value) (an : Option Addr) (cdv ct : Value) (us : List Value), us.length = ps.length → bindArgs (PySem.W.fnOf x qual (defArgs st) (defBody st) (defScope st) .none kV doc pm an cdv ct) ⟨us, []⟩ = pure (ps.zip us)) : Binds K fd ps [] := by
  obtain ⟨oc, od, kV, doc, pm, an, cdv, ct, osl, rfl, lk, hcd⟩ := F.ex
  exact .all (h kV doc pm an cdv ct)
theorem fun_mk {x qual : Str} {st : Stmt} {f : Addr} {oc : Value} {od an : Option Addr} {osl : Array (Option Value)} {kV doc pm cdv ct : Value} (l : K.lookup f = some ⟨oc, od, .func (PySem.W.fnOf x qual (defArgs st) (defBody st) (defScope st) .none kV doc pm an cdv ct), osl⟩)
    (c : PySem.W.codeIn K cdv qual = true) (k : PySem.W.keepIn K (.ref f) = true) : Fun K x qual st f (PySem.W.fnOf x qual (defArgs st) (defBody st) (defScope st) .none kV doc pm an cdv ct) := ⟨⟨oc, od, kV, doc, pm, an, cdv, ct, osl, rfl, l, c⟩, k⟩
end
theorem hu_of {A : Around} {k : Nat} (hr : Room k A) : A.units + 1 < cLine := Nat.lt_of_le_of_lt (Nat.add_le_add_left (by decide : 1 ≤ 64) _) hr.units
section
variable {X : Cx}
theorem pv (i : Nat) {x : Str} {pos : Pos} (hN : X.N[i]? = some x := by rfl) (hv : Vis X.env.scope x := by first | exact Or.inl rfl | exact Or.inr (Or.inl rfl) | exact Or.inr (Or.inr rfl)) (hd : (x == ("__debug__" : Str)) = false := by decide)
    (hcd : (x == ("__classdict__" : Str)) = false := by decide) : PE X (.Name x pos) (tVar i) := pe_var hN hv hd hcd
end
theorem iteF {A B : Prop} (h : B) : if false = true then A else B := by
  rw [if_neg Bool.false_ne_true]
  exact h
theorem iteT {A B : Prop} (h : A) : if true = true then A else B := by
  rw [if_pos rfl]
  exact h
theorem ite2 {c A B : Prop} [Decidable c] (h1 : c → A) (h2 : ¬ c → B) : if c then A else B := by
  by_cases h : c
  · rw [if_pos h]
    exact h1 h
  · rw [if_neg h]
    exact h2 h
def Same (H H' : Hp) : Prop := ∀ b o, H b = some o → H' b = some o
theorem Same.refl (H : Hp) : Same H H := fun _ _ h => h
theorem Same.trans {H H1 H2 : Hp} (a : Same H H1) (b : Same H1 H2) : Same H H2 := fun c o h => b c o (a c o h)
theorem Same.free {H H' : Hp} (e : Same H H') {l : Addr} (h : H' l = Option.none) : H l = Option.none := by
  cases q : H l with
  | none => rfl
  | some o =>
    rw [e l o q] at h
    cases h
theorem Same.seq {K : PySem.W.Frag} {H H' : Hp} {a : Addr} {xs : List V} (e : Same H H') (h : SqL K H a xs) : SqL K H' a xs := by
  rcases h with (h | ⟨o, h⟩) | h
  · exact .inl (.inl (e _ _ h))
  · exact .inl (.inr ⟨o, e _ _ h⟩)
  · exact .inr h
end L2
set_option Elab.async false
set_option linter.all false
set_option maxRecDepth 100000
namespace L2
open PySem PySem.Spec PyProof.Rows
theorem PS.nox {X : Cx} {st : Stmt} {t : TS} (h : PS X.nox st t) : PS X st t := fun pins s σ H D I hw =>
  wpAny_mono (h pins s σ H D (I.wish _) hw) (fun _ _ q => q.unwish) fun _ _ z => False.elim z
theorem ObjOk.some_ {P : Program} {w : World} {H : Hp} {h : Heap} {a : Addr} {o : HO} (x : ObjOk P w H h a o) : ∃ ob, h.get? a = some ob := by
  cases o with
  | lst xs => obtain ⟨_, _, _, _, e⟩ := x; exact ⟨_, e⟩
  | tup xs => obtain ⟨_, _, _, ob, e, _⟩ := x; exact ⟨_, e⟩
  | dK kvs => obtain ⟨_, _, _, _, o, _, _, e, _⟩ := x; exact ⟨_, e⟩
  | dT kvs => obtain ⟨_, _, _, _, o, _, _, e, _⟩ := x; exact ⟨_, e⟩
  | set S n => obtain ⟨o, _, _, _, e, _⟩ := x; exact ⟨_, e⟩
  | ins C dx fs => obtain ⟨_, _, _, e, _⟩ := x; exact ⟨_, e⟩
  | own y => obtain ⟨_, e⟩ := x; exact ⟨_, e⟩
  | xd fs => obtain ⟨_, ⟨_, _, _, e, _⟩, _⟩ := x; exact ⟨_, e⟩
  | rng lo hi => obtain ⟨_, _, _, e⟩ := x; exact ⟨_, e⟩
  | frz ob u => obtain ⟨e, _⟩ := x; exact ⟨_, e⟩
  | tbl ps => exact ⟨_, (show h.get? a = some _ from x)⟩
  | met f y => exact ⟨_, (show h.get? a = some _ from x)⟩
  | ext φ => obtain ⟨_, ⟨_, e⟩, _⟩ := x; exact ⟨_, e⟩
theorem Inv.there {X : Cx} {pins : List (Addr × Obj)} {σ : St} {H : Hp} {s : Shared} (I : Inv X pins σ H s) {a : Addr} {o : HO} (e : H a = some o) : ∃ ob, s.heap.get? a = some ob := (I.hok a o e).some_
theorem Inv.none_of {X : Cx} {pins : List (Addr × Obj)} {σ : St} {H : Hp} {s : Shared} (I : Inv X pins σ H s) {a : Addr} (e : s.heap.get? a = none) : H a = none := by
  cases q : H a with
  | none => rfl
  | some o =>
    obtain ⟨ob, z⟩ := I.there q
    rw [e] at z
    cases z
structure Fly (h0 h : Heap) (H : Hp) (C ea T : Addr) : Prop where
  ob : ∃ (oe : Obj) (vs : Array Value) (a0 : Value) (oT : Obj) (ts : Array Value), h.get? ea = some oe ∧ oe.cls = .ref C ∧ oe.data = .fields vs ∧ vs[0]? = some a0 ∧ vs[1]? = some (.ref T) ∧ h.get? T = some oT ∧ oT.data = .fields ts ∧ ts[3]? = some .none
  ne : T ≠ ea
  fe : H ea = none
  fT : H T = none
  ne0 : h0.get? ea = none
  nT0 : h0.get? T = none
def CXE (P : Program) (w : World) : CXT := fun outer H s E e s' => ∃ (ea T C : Addr) (H' : Hp), e = .ref ea ∧ s'.os = s.os ∧ AllBare s'.gens ∧ Un (frs outer) [] H H' s.heap s'.heap ∧ HOk P w H' s'.heap ∧ Fly s.heap s'.heap H' C ea T ∧ E (.ref C) none H'
theorem passE0 {P : Program} {w : World} {X : Cx} : Passes (CXE P w) X E0 := fun _ _ _ _ _ _ _ ⟨_, _, _, _, _, _, _, _, _, _, z⟩ => z.elim
structure Exc (K : PySem.W.Frag) (mg : Str → Option Value) (x : Str) (C : Addr) : Prop where
  bound : mg x = some (.ref C)
  ex : PySem.W.excIn K C [.type "ValueError", .type "Exception", .type "BaseException", .type "object"] "ValueError.__new__" = true
theorem exc_obj {K : PySem.W.Frag} {h : Heap} {C : Addr} {bmB : List Value} {newId : String} (X : K.In h) (q : PySem.W.excIn K C bmB newId = true) :
    ∃ bm N nm qn bs hdct sn sub ab col dd k0 k1 k2 k3 k5 mN, h.get? C = some (excClassObj nm qn C N bs bm hdct sn sub ab col dd k0 k1 k2 k3 k5 newId) ∧ h.Ns N mN ∧ mN "__init__" = none ∧ OwnTail h bmB bm := by
  unfold PySem.W.excIn at q
  split at q
  case h_2 => cases q
  case h_1 dd cd sl ho =>
    split at q
    case h_2 => cases q
    case h_1 C' bm k0 k1 k2 k3 n k5 hm hs =>
      simp only [Bool.and_eq_true, beq_iff_eq, Bool.not_eq_true'] at q
      obtain ⟨⟨⟨⟨⟨e1, e2⟩, e3⟩, e4⟩, e5⟩, e6⟩ := q
      subst e1 e2
      cases cd with
      | mk nm bs mro ns qn hd sn sub ab col del =>
        have hsl : sl = #[k0, k1, k2, k3, some (.builtin n), k5] := by rw [← Array.toList_inj]; exact hs
        simp only at hm e3 e5 e6
        subst hm e3 hsl
        exact ⟨bm, ns, nm, qn, bs, hd, sn, sub, ab, col, dd, k0, k1, k2, k3, k5, _, X _ _ ho, .of_isNs (PySem.W.isNs_of_in X e5), PySem.W.nsMap_none_of_in X e5 e6, PySem.W.tail_of_in X e4⟩
def tRaise (C : Addr) (t : TA) (E : XK) : TS := fun _ σ H => t σ H fun xs H1 => xs.length ≤ sizeLine ∧ E (.ref C) none H1
theorem Inv.hid {X : Cx} {pins : List (Addr × Obj)} {σ : St} {H : Hp} {s : Shared} (I : Inv X pins σ H s) (as : List Addr) (hs : ∀ b ∈ frs X.stack, b ∈ as) : s.heap.FunFrames (PySem.W.hideAll s.heap as) X.stack :=
  PySem.W.funFrames_hide I.stack fun env he a hf => hs a (List.mem_filterMap.mpr ⟨env, he, hf⟩)
section
variable {P : Program} {w : World} {K : PySem.W.Frag} {mg : Str → Option Value} {base : Heap} {N : List Str} {qual : Str} {scope : Scope} {f : Addr} {cd : Value} {A : Around} {outer : List Env} {s₀ : Shared} {H₀ : Hp} {E : XK}
theorem leaves_made {pins : List (Addr × Obj)} {σ : St} {H : Hp} {s : Shared} {C e : Addr} {vs : List Value} {h' : Heap} (I : Inv (cxOf (CXE P w) P w K mg base N qual scope f cd A outer s₀ H₀ E) pins σ H s)
    (hx : Heap.MadeExcOf s.heap h' e (.ref C) vs) (q : E (.ref C) none H) : (cxOf (CXE P w) P w K mg base N qual scope f cd A outer s₀ H₀ E).xe (.ref e) { s with heap := h' } := by
  have hin : ∀ b ∈ frs (envOfC qual scope s₀.heap.objs.size f cd :: outer), b ∈ frs (envOfC qual scope s₀.heap.objs.size f cd :: outer) := fun _ z => z
  have ff := I.hid _ hin
  show wpAny _ _ (leaving _ _) _ _ _
  refine wpAny_leaves_madeW (base := PySem.W.hideAll s.heap (frs (envOfC qual scope s₀.heap.objs.size f cd :: outer))) (h := s.heap) I.ok.frames rfl (fun b o z => PySem.W.of_hideAll _ z) ff hx fun h2 t fl tt tn up => ?_
  have inB : ∀ b o, b ∉ frs (envOfC qual scope s₀.heap.objs.size f cd :: outer) → s.heap.get? b = some o → h2.get? b = some o := fun b o nb z => fl.1 b o (PySem.W.hideAll_get _ z nb)
  have upS : ∀ b o, b ∈ frs (envOfC qual scope s₀.heap.objs.size f cd :: outer) → s.heap.get? b = some o → ∃ sl, h2.get? b = some { o with slots := sl } := fun b o nb z => by
    obtain ⟨_, o', z', hd⟩ := I.stack.mem nb
    rw [z] at z'
    cases z'
    exact up b o (hx.keeps b o z) hd
  have notL : ∀ b o, s₀.heap.get? b = some o → b ∉ frs outer → b ∉ frs (envOfC qual scope s₀.heap.objs.size f cd :: outer) := fun b o z nb m => by
    rcases List.mem_cons.mp (I.stkSub b m) with z' | z'
    · have := Heap.lt_size z
      have z' : b = s₀.heap.objs.size := z'
      rw [z'] at this
      exact Nat.lt_irrefl _ this
    · exact nb z'
  have thr : ∀ b o, s.heap.get? b = some o → ∃ o', h2.get? b = some o' := fun b o z => by
    by_cases hb : b ∈ frs (envOfC qual scope s₀.heap.objs.size f cd :: outer)
    · obtain ⟨sl, z'⟩ := upS b o hb z
      exact ⟨_, z'⟩
    · exact ⟨o, inB b o hb z⟩
  obtain ⟨_, _, _, oe, vs', T, oT, ts, a1, ⟨a2, a3⟩, a4, a5, a6, a7, a8, a9, a10⟩ := fl
  have noT : s.heap.get? T = none := by
    cases z : s.heap.get? T with
    | none => rfl
    | some o =>
      by_cases hb : T ∈ frs (envOfC qual scope s₀.heap.objs.size f cd :: outer)
      · obtain ⟨_, o', z', hd⟩ := I.stack.mem hb
        obtain ⟨sl, z2⟩ := upS T o hb z
        rw [z] at z'
        cases z'
        rw [a8] at z2
        cases z2
        exact absurd a9 (hd ts)
      · rw [PySem.W.hideAll_get _ z hb] at a6
        cases a6
  have no0 : ∀ b, s.heap.get? b = none → s₀.heap.get? b = none := fun b z => by
    cases y : s₀.heap.get? b with
    | none => rfl
    | some o =>
      obtain ⟨o', z'⟩ := I.base.there b o y (fun m => nomatch m)
      rw [z] at z'
      cases z'
  refine ⟨e, T, C, H, rfl, I.os, I.bare, ⟨fun b o z n nb _ => ?_, fun b o z n nb _ => ?_, fun b o z n _ => I.base.free b o z n (fun m => nomatch m), fun b o z _ => ?_, I.base.tups, I.base.frzs, I.base.tbls⟩, fun a o z => ?_,
    ⟨⟨oe, vs', .ref t, oT, ts, a1, a2, a4, a3, a5, a8, a9, a10⟩, a7, I.none_of hx.new, I.none_of noT, no0 _ hx.new, no0 _ noT⟩, q⟩
  · exact inB b o (notL b o z nb) (I.base.keep b o z n nb (fun m => nomatch m))
  · obtain ⟨sl, z1⟩ := I.base.slot b o z n nb (fun m => nomatch m)
    obtain ⟨sl', z2⟩ := upS b _ (by
      show b ∈ frs _
      unfold frs
      rw [List.filterMap_cons]
      exact List.mem_cons_of_mem _ nb) z1
    exact ⟨sl', z2⟩
  · obtain ⟨o', z'⟩ := I.base.there b o z (fun m => nomatch m)
    exact thr b o' z'
  · refine (I.hok a o z).stay (fun b u hb r => ?_) (fun _ y => y) fun _ _ y => y
    refine inB b u (fun m => ?_) r
    have := I.stkFree b m
    rcases hb with rfl | hb
    · rw [z] at this; cases this
    · rw [hb] at this; cases this
theorem ps_raise {x : Str} {C : Addr} {e : Expr} {es : List Expr} {t : TA} {np cpos pos : Pos} (ex : Exc K mg x C) (hh : A.handled = none) (hg : Gl (cxOf (CXE P w) P w K mg base N qual scope f cd A outer s₀ H₀ E) x)
    (ha : PA (cxOf (CXE P w) P w K mg base N qual scope f cd A outer s₀ H₀ E) (e :: es) t)
    (hs : starEach (e :: es) (envOfC qual scope s₀.heap.objs.size f cd) = (false, eval e (envOfC qual scope s₀.heap.objs.size f cd)) :: starEach es (envOfC qual scope s₀.heap.objs.size f cd) := by rfl)
    (hpl : (backTo cpos (starEach es (envOfC qual scope s₀.heap.objs.size f cd))).any (·.1) = false := by rfl) (hd : (x == ("__debug__" : Str)) = false := by decide) :
    PS (cxOf (CXE P w) P w K mg base N qual scope f cd A outer s₀ H₀ E) (.Raise (some (.Call (.Name x np) (e :: es) [] cpos)) none pos) (tRaise C t E) := by
  intro pins s σ H D I h
  obtain ⟨bm, N', nm, qn, bs, hdct, sn, sub, ab, col, dd, k0, k1, k2, k3, k5, mN, hC, hN, hni, TL⟩ := exc_obj (h := base) I.mod.kin ex.ex
  refine wpAny_Raise_call_subT (C := C) (nm := nm) (q := qn) (N := N') (bs := bs) (bm := bm) (hdct := hdct) (sn := sn) (sub := sub) (ab := ab) (col := col) (dd := dd) (k0 := k0) (k1 := k1) (k2 := k2) (k3 := k3) (k5 := k5)
    PySem.F.excBase_ValueError (mN := mN) (TL.hasType PySem.F.excBase_ValueError.hasBase) hh (by
      show (backTo cpos (starEach (e :: es) (envOfC qual scope s₀.heap.objs.size f cd))).any (·.1) = false
      rw [hs]
      show (false || (backTo cpos (starEach es (envOfC qual scope s₀.heap.objs.size f cd))).any (·.1)) = false
      rw [hpl]
      rfl) hni (ld_glob I hg ex.bound ⟨rfl, ?_⟩ hd)
  have h1 := ha cpos pins s σ H _ I h
  show wpAny _ _ (evalArgs (.ref C) true (backTo cpos (starEach (e :: es) (envOfC qual scope s₀.heap.objs.size f cd))) []) _ _ _
  have h1 : wpAny _ _ (spliced (backTo cpos (starEach (e :: es) (envOfC qual scope s₀.heap.objs.size f cd)))) _ _ s := h1
  rw [hs] at h1 ⊢
  refine Calls.evalArgs_plain (wpAny_mono h1 (fun us s2 ⟨xs, H2, I2, r, z, q⟩ => ⟨rfl, ?_, I2.bk _ _ hC, hN.keeps I2.bk, TL.keeps I2.bk, fun h' e' hx => ?_⟩) fun _ _ y => y)
  · rw [← r.length]; exact z
  · exact leaves_made I2 hx q
end
theorem Fun.okE {P : Program} {w : World} {K : PySem.W.Frag} {mg : Str → Option Value} {base : Heap} {x qual : Str} {st : Stmt} {f : Addr} {fd : FuncData} {N ps : List Str} {k : Nat} {sp : Sp} (F : Fun K x qual st f fd) (S : FnScope N ps (defScope st)) (len : ∀ vs H Q E, sp vs H Q E → vs.length = ps.length)
    (hbody : ∀ (cdv : Value) (A : Around) (outer : List Env) (s : Shared) (H : Hp) (vs : List V) (Q : VK) (E : XK), Room k (A.deeper (envOfC qual (defScope st) s.heap.objs.size f cdv)) → A.handled = none → sp vs H Q E →
      ∃ t, PSs (cxOf (CXE P w) P w K mg base N qual (defScope st) f cdv A outer s H E) (defBody st) t ∧ t { nx := fun _ H' => Q .non H', rt := Q } (start N vs) H) : FnOk P w K mg base (CXE P w) (k + 1) f fd ps sp := by
  obtain ⟨oc, od, kV, doc, pm, an, cdv, ct, osl, rfl, lk, hcd⟩ := F.ex
  exact fn_of lk hcd S len fun A outer s H vs Q E hr hsp => hbody cdv A outer s H vs Q E hr hr.hd hsp
end L2
set_option Elab.async false
set_option linter.all false
set_option maxRecDepth 100000
namespace L2
open PySem PySem.Spec PyProof.Rows
section
variable {prog : Program} {w : World} {A : Around} {E : Value → Shared → Prop} {z : Shared}
end
theorem Inv.track {X : Cx} {pins : List (Addr × Obj)} {σ : St} {H : Hp} {s : Shared} {p : Addr} {o : HO} (I : Inv X pins σ H s) (hn : H p = none) (h0 : X.s₀.heap.get? p = none) (hl : p ≠ X.env.locals)
    (hc : ∀ x c, X.env.cells.lookup x = some c → c ≠ p) (hp : ∀ q ∈ X.pn ++ pins, q.1 ≠ p) (new : ObjOk X.prog X.w (upd H p o) s.heap p o) : Inv X pins σ (upd H p o) s where
  ok := I.ok
  os := I.os
  bare := I.bare
  base := ⟨I.base.keep, I.base.slot, fun b ob e n hx => by
      rw [upd_ne (fun z => by rw [z, h0] at e; cases e)]
      exact I.base.free b ob e n hx, I.base.there,
    fun b xs e => by rw [upd_ne (ne_of_none (I.base.tups b xs e) hn)]; exact I.base.tups b xs e,
    fun b ob u e => by rw [upd_ne (ne_of_none (I.base.frzs b ob u e) hn)]; exact I.base.frzs b ob u e,
    fun b ps e => by
      obtain ⟨m, z⟩ := I.base.tbls b ps e
      exact ⟨m, by rw [upd_ne (ne_of_none z hn)]; exact z⟩⟩
  loc := I.loc
  cell := I.cell
  free := by rw [upd_ne hl.symm]; exact I.free
  freeC := fun x c e => by rw [upd_ne (hc x c e)]; exact I.freeC x c e
  pin := fun q m => by
    obtain ⟨a, b, c⟩ := I.pin q m
    exact ⟨a, by rw [upd_ne (hp q m)]; exact b, c⟩
  hok := fun b u e => by
    by_cases hb : b = p
    · subst hb
      rw [upd_same] at e
      cases e
      exact new
    · rw [upd_ne hb] at e
      exact (I.hok b u e).stay (fun _ _ _ q => q) (fun c q => by rw [upd_ne (ne_of_none q hn)]; exact q) fun c xs q => by rw [upd_ne (ne_of_none q hn)]; exact q
  len := I.len
theorem Inv.turned2 {X : Cx} {pins : List (Addr × Obj)} {σ : St} {H : Hp} {s : Shared} {h' : Heap} {t' : Nat} {i j : Addr} (I : Inv X pins σ H s) (k : ∀ b o, b ≠ i → b ≠ j → s.heap.get? b = some o → h'.get? b = some o) (fi : FpOk X pins H i) (fj : FpOk X pins H j) :
    Inv X pins σ H { s with heap := h', toks := t' } := by
  obtain ⟨a0, a1, a2, a3, a4, a5⟩ := fi
  obtain ⟨b0, b1, b2, b3, b4, b5⟩ := fj
  have nit : ∀ b u, H b = some u → b ≠ i ∧ b ≠ j := fun b u e => ⟨(fun z => by rw [z, a0] at e; cases e), (fun z => by rw [z, b0] at e; cases e)⟩
  have kk : ∀ b o, b ∉ [i, j] → s.heap.get? b = some o → h'.get? b = some o := fun b o m e => k b o (fun z => m (by simp [z])) (fun z => m (by simp [z])) e
  refine I.step (g' := s.gens) (d' := s.drawn) (ch := [i, j]) (fun b hb => ?_) (fun b o _ _ m e _ => kk b o m e) (fun b o _ _ m e _ => ⟨o.slots, kk b o m e⟩) (fun _ _ _ _ n => n) (fun b o m e => ⟨o, kk b o m e⟩) (fun _ _ e => e) (fun _ _ _ e => e)
    (fun b ps e => ⟨#[], by rw [e]; simp⟩) (fun m hm => ?_) (fun b u e => ?_) I.bare
  · rcases List.mem_cons.mp hb with rfl | hb
    · exact ⟨a3, a1, a4, a5⟩
    · obtain rfl := List.mem_singleton.mp hb
      exact ⟨b3, b1, b4, b5⟩
  · obtain ⟨o, es, ep, ho, r⟩ := hm
    exact ⟨o, es, ep, k _ o a1.symm b1.symm ho, r⟩
  · refine (I.hok b u e).stay (fun c v hc q => k c v ?_ ?_ q) (fun _ q => q) fun _ _ q => q
    · rcases hc with z | z
      · rw [z]; exact (nit b u e).1
      · exact (nit c _ z).1
    · rcases hc with z | z
      · rw [z]; exact (nit b u e).2
      · exact (nit c _ z).2
end L2
set_option Elab.async false
set_option linter.all false
set_option maxRecDepth 100000
namespace L2
open PySem PySem.Spec PyProof.Rows
theorem getD_at {α : Type} {xs : List α} {i : Nat} {d : α} (h : i < xs.length) : xs.getD i d = xs[i] := by
  rw [List.getD_eq_getElem?_getD, List.getElem?_eq_getElem h]
  rfl
section
variable {X : Cx}
theorem nums_of {ns : List Int} {its : List Value} (r : Vals (ns.map V.int) its) : ∀ (i : Nat) (v : Value), its.toArray[i]? = some v → ∃ t, v = Value.int (ns.getD i 0) t := by
  intro i v e
  rw [List.getElem?_toArray] at e
  have hl := r.length
  have hi : i < its.length := (List.getElem?_eq_some_iff.mp e).1
  rw [List.length_map] at hl
  have hx : (ns.map V.int)[i]? = some (.int (ns.getD i 0)) := by
    rw [List.getElem?_map, List.getElem?_eq_getElem (by omega)]
    simp [List.getD, show i < ns.length by omega]
  obtain ⟨u, hu, ru⟩ := r.get hx
  rw [e] at hu
  cases hu
  exact ru
theorem val_at {xs : List V} {us : List Value} (r : Vals xs us) {j : Nat} (h1 : j < us.length) : RelV (xs.getD j .non) us[j] := by
  have hl := r.length
  obtain ⟨u, hu, ru⟩ := r.get (i := j) (x := xs.getD j .non) (by rw [List.getElem?_eq_getElem (by omega), getD_at (by omega)])
  rw [List.getElem?_eq_getElem h1] at hu
  cases hu
  exact ru
end
end L2
set_option linter.all false
namespace Srt
open PySem.W PyProof.Rows
section
variable {key : Nat → Int} {n : Nat}
end
end Srt
set_option Elab.async false
set_option linter.all false
set_option maxRecDepth 100000
namespace L2
open PySem PySem.Spec PyProof.Rows PySem.W
section
variable {X : Cx} {pins : List (Addr × Obj)} {σ : St} {H : Hp} {s : Shared}
structure Young (X : Cx) (pins : List (Addr × Obj)) (b : Addr) : Prop where
  lo : b ≠ X.env.locals
  fs : b ∉ X.fs
  ge : b ∈ X.ex ∨ X.s₀.heap.objs.size ≤ b
  ce : ∀ x c, X.env.cells.lookup x = some c → c ≠ b
  pi : ∀ p ∈ X.pn ++ pins, p.1 ≠ b
theorem Inv.young (I : Inv X pins σ H s) {b : Addr} (hb : s.heap.objs.size ≤ b) : Young X pins b := by
  obtain ⟨_, a1, a2, a3, a4, a5⟩ := I.fpOk (b := b) hb (H' := fun _ => none) rfl
  exact ⟨a1, a2, a3, a4, a5⟩
theorem Inv.record (I : Inv X pins σ H s) {b : Addr} {h' : Heap} (y : Young X pins b) (hn : H b = none) (hs : Heap.SameBut b s.heap h') : Inv X pins σ H { s with heap := h' } :=
  I.turned (t' := s.toks) (fun c o nc e => (hs.2 c nc).trans e) hn y.lo y.ge y.ce y.pi
end
end L2
set_option Elab.async false
set_option linter.all false
set_option maxRecDepth 100000
namespace L2
open PySem PySem.Spec PyProof.Rows PySem.W
section
variable {X : Cx} {pins : List (Addr × Obj)} {σ : St} {H : Hp} {s : Shared}
end
end L2
set_option Elab.async false
set_option linter.all false
set_option maxRecDepth 100000
namespace L2
open PySem PySem.Spec PyProof.Rows PySem.W Builtin.Getset_descriptor
def ExcIs (ea C : Addr) : Heap → Prop := fun h => ∃ o, h.get? ea = some o ∧ o.cls = .ref C
theorem ExcIs.ty {M : Model} {h : Heap} {ea C : Addr} (x : ExcIs ea C h) : Looks M h (typeOf (.ref ea)) (.ref C) := by
  obtain ⟨o, e, c⟩ := x
  rw [← c]
  exact (Looks.ld e).andThen .now
section
variable {prog : Program} {w : World} {A : Around} {E : Value → Shared → Prop} {K : Frag} {x C : Addr}
theorem exc_class_get {s : Shared} {tp : Value} {R : Result → Shared → Prop} (X : K.In s.heap) (J : ExcIs x C s.heap) (hm : mroIn K C (.type "object") = some true) (q : R (.ok (.ret (.ref C))) s) :
    codeAny (model prog w) A (.call (.builtin "getset_descriptor.__get__") ⟨[.builtin "object.__class__", .ref x, tp], []⟩) R s := by
  obtain ⟨h0, g0, d0, t0, o0⟩ := s
  have LT := J.ty (M := model prog w)
  have LM := looks_mroIn (M := model prog w) X hm
  refine codeAny_call_builtin KF.slot_gs.plain KF.entry_gs ?_
  refine KF.slot_gs.check _ _ _ _ _ _ _ _ KF.type_class (KF.args_gs _ _ _) ?_
  unfold Builtin.«getset_descriptor.__get__»
  unfold descrGet
  rw [dga_obj]
  refine wpAny_bind ?_
  refine wpAny_pure ?_
  unfold descrGetter
  unfold descrCheckInstance
  unfold descrNameAndClass
  unfold isInstance
  simp only [KF.owner_class]
  repeat lk
  refine ⟨Code.quiet_builtin _ (by decide +kernel), ?_⟩
  refine codeAny_builtin KF.entry_class ?_
  unfold Builtin.«object.__class__»
  unfold shownTypeOf
  repeat lk
  exact q
structure ExcCls (K : Frag) (C : Addr) : Prop where
  ga : findIn K (.ref C) "__getattribute__" = some (some (.builtin "BaseException.__getattribute__"))
  gn : findIn K (.ref C) "__getattr__" = some none
  ha : findIn K (.ref C) "__class__" = some (some (.builtin "object.__class__"))
  hn : specialIn K (.builtin "object.__class__") "__get__" = some (some (.builtin "getset_descriptor.__get__"))
  tk : takesIn K (.builtin "object.__class__") = some true
  mo : mroIn K C (.type "object") = some true
  mb : mroIn K C (.type "BaseException") = some true
  ty : typeIn K (.ref C) = some (.type "type")
  cl : (clsIn K C).isSome = true
theorem exc_find {M : Model} {h : Heap} (X : K.In h) (J : ExcIs x C h) (c : ExcCls K C) : Looks M h (Builtin.ObjectAttr.find (.ref x) (.ref C) "__class__") (.bind (.builtin "getset_descriptor.__get__") (.builtin "object.__class__")) := by
  have L1 := looks_findIn (M := M) X c.ha
  have L2 : Looks M h (Builtin.ObjectAttr.getOf (some (.builtin "object.__class__"))) (some (.builtin "getset_descriptor.__get__")) := looks_specialIn X c.hn
  have L3 := looks_takesIn (M := M) X c.tk
  exact L1.andThen (L2.andThen ((show Looks M h (Builtin.ObjectAttr.dataDescriptor? (some (.builtin "object.__class__")) (some (.builtin "getset_descriptor.__get__"))) (some (.builtin "getset_descriptor.__get__", .builtin "object.__class__")) from L3.andThen .now).andThen (Looks.tag .now)))
theorem exc_entry {s : Shared} {tk : Tok} {R : Result → Shared → Prop} (X : K.In s.heap) (J : ExcIs x C s.heap) (c : ExcCls K C) (q : R (.ok (.ret (.ref C))) s) :
    codeAny (model prog w) A (.call (.builtin "BaseException.__getattribute__") ⟨[.ref x, .str "__class__" tk], []⟩) R s := by
  obtain ⟨h0, g0, d0, t0, o0⟩ := s
  have LT := J.ty (M := model prog w)
  have LF := exc_find (M := model prog w) X J c
  have LB := looks_mroIn (M := model prog w) X c.mb
  refine codeAny_call_builtin PySem.F.attr_ValueError.ga.plain PySem.F.entry_bexc_ga ?_
  have hk : builtinKind "BaseException.__getattribute__" = some .slot := by decide +kernel
  have hsp : splitId "BaseException.__getattribute__" = some ("BaseException", "__getattribute__") := by decide +kernel
  have hao := PySem.F.args_bexc_ga (.ref x) (.str "__class__" tk)
  simp only [checkBuiltinCall, hk, hsp]
  refine wpAny_bind ?_
  unfold isInstance
  repeat (any_goals (first | assumption | with_reducible refine Looks.at (by assumption) ?_ | wp_step))
  refine exc_class_get X J c.mo ?_
  repeat (any_goals (first | assumption | wp_step))
theorem exc_attr {s : Shared} {Q : Option Value → Shared → Prop} (X : K.In s.heap) (J : ExcIs x C s.heap) (c : ExcCls K C) (q : Q (some (.ref C)) { s with toks := s.toks + 1 }) : wpAny (model prog w) A (getAttr? (.ref x) "__class__") Q E s := by
  obtain ⟨h0, g0, d0, t0, o0⟩ := s
  have LT := J.ty (M := model prog w)
  have L1 := looks_findIn (M := model prog w) X c.ga
  have L2 := looks_findIn (M := model prog w) X c.gn
  have f3 := PySem.F.attr_ValueError.ga.bind (.ref x)
  have hx2 : (Value.builtin "BaseException.__getattribute__" == Value.builtin "object.__getattribute__") = false := by decide +kernel
  have hx1 : (onTheHeap (Value.ref C) && Value.builtin "BaseException.__getattribute__" == Value.builtin "object.__getattribute__") = false := by rw [hx2]; rfl
  unfold getAttr? getAttrBy?
  repeat (any_goals (first | assumption | with_reducible refine Looks.at (by assumption) ?_ | wp_step))
  refine exc_entry X J c ?_
  repeat (any_goals (first | assumption | wp_step))
theorem kitx_exc (c : ExcCls K C) : KitX K (.ref x) (.ref C) (ExcIs x C) where
  ty := fun _ _ _ J => J.ty
  it := fun M h X _ => by
    obtain ⟨cd, hc⟩ := Option.isSome_iff_exists.mp c.cl
    unfold clsIn at hc
    split at hc
    · rename_i a1 a2 a3 a4 ho
      intro A' Q' E' s' k z
      unfold isType loadHead
      exact wpAny_bind (wpAny_loadPart (k _ _ (X _ _ ho)) (wpAny_pure z))
    · cases hc
  ne := fun h tp dd its n sl X htp => by
    obtain ⟨cd, hc⟩ := Option.isSome_iff_exists.mp c.cl
    refine Bool.eq_false_iff.mpr fun q => ?_
    obtain rfl : C = tp := Value.ref.inj (beq_iff_eq.mp q)
    unfold clsIn at hc
    split at hc
    · rename_i a1 a2 a3 a4 ho
      have z := (X _ _ ho).symm.trans htp
      cases z
    · cases hc
  ca := fun X J k => exc_attr X J c k
end
end L2
set_option Elab.async false
set_option linter.all false
set_option maxRecDepth 100000
namespace L2
open PySem PySem.Spec PyProof.Rows PySem.W
end L2
set_option Elab.async false
set_option linter.all false
set_option maxRecDepth 100000
namespace L2
open PySem PySem.Spec PyProof.Rows
end L2
set_option Elab.async false
set_option linter.all false
set_option maxRecDepth 100000
namespace L2
open PySem PySem.Spec PyProof.Rows
def Evl (t : TE) (σ : St) (H : Hp) (v : V) : Prop := ∀ Q : VK, Q v H → t σ H Q
def Tst (t : TT) (σ : St) (H : Hp) (p : Prop) [Decidable p] : Prop := ∀ Q : Bool → Hp → Prop, Q (decide p) H → t σ H Q
section
variable {σ : St} {H : Hp} {ta tb tc : TE} {x y v : V} {i j k : Int} {K : PySem.W.Frag} {D : Ends} {n m : Nat}
theorem evl_var {i : Nat} (h : σ[i]? = some (some v)) : Evl (tVar i) σ H v := fun Q q => ⟨v, h, q⟩
theorem evl_c : Evl (tC v) σ H v := fun Q q => q
theorem evl_I0 {g : Int → Int → V} (a : Evl ta σ H (.int i)) (b : Evl tb σ H (.int j)) : Evl (tOp (rI0 g) ta tb) σ H (g i j) := fun Q q => a _ (b _ ⟨i, j, rfl, rfl, q⟩)
theorem evl_I {C : Int → Int → Prop} {g : Int → Int → V} (a : Evl ta σ H (.int i)) (b : Evl tb σ H (.int j)) (c : C i j) : Evl (tOp (rI C g) ta tb) σ H (g i j) := fun Q q => a _ (b _ ⟨i, j, rfl, rfl, c, q⟩)
theorem evl_eqI (a : Evl ta σ H (.int i)) (b : Evl tb σ H (.int j)) : Evl (tOp rEq ta tb) σ H (.bl (decide (i = j))) := fun Q q => a _ (b _ ⟨rfl, by
  have e : decide (V.int i = V.int j) = decide (i = j) := by
    rw [decide_eq_decide]
    exact ⟨fun z => V.int.inj z, fun z => by rw [z]⟩
  rw [e]
  exact q⟩)
theorem evl_ixL {p : Addr} {xs : List V} (a : Evl ta σ H (.ref p)) (b : Evl tb σ H (.int i)) (h : SqL K H p xs) (e : atI xs i = some v) : Evl (tOp (rIxL K) ta tb) σ H v := fun Q q => a _ (b _ ⟨p, xs, i, v, rfl, rfl, h, e, q⟩)
theorem tst_of {p : Prop} [Decidable p] (a : Evl ta σ H (.bl (decide p))) : Tst (tTest ta) σ H p := fun Q q => a _ ⟨_, rfl, q⟩
theorem tst_if {t : TT} {a b : TS} {p : Prop} [Decidable p] (h : Tst t σ H p) (h1 : p → a D σ H) (h2 : ¬ p → b D σ H) : tIfS t a b D σ H := h _ (by
  by_cases c : p
  · rw [decide_eq_true c, if_pos rfl]; exact h1 c
  · rw [decide_eq_false c, if_neg Bool.false_ne_true]; exact h2 c)
theorem seq_if {t : TT} {a b u : TS} {p : Prop} [Decidable p] (h : Tst t σ H p) (h1 : p → a { D with nx := u D } σ H) (h2 : ¬ p → b { D with nx := u D } σ H) : tSeq (tIfS t a b) u D σ H := tst_if h h1 h2
theorem seq_asg {i : Nat} {u : TS} (h : Evl ta σ H v) (q : u D (σ.set i (some v)) H) : tSeq (tAsg ta (gName i)) u D σ H := h _ q
theorem run_ret (h : Evl ta σ H v) (q : D.rt v H) : tRet ta D σ H := h _ q
theorem run_next (h : D.nx σ H) : tNext D σ H := h
theorem run_seq {t u : TS} (h : t { D with nx := u D } σ H) : tSeq t u D σ H := h
end
end L2
set_option Elab.async false
set_option linter.all false
set_option maxRecDepth 100000
namespace L2
open PySem PySem.Spec PyProof.Rows PySem.W
inductive TyX (K : Frag) (H : Hp) : V → Value → Prop where
  | of {x : V} {t : Value} (h : TyOf K H x t) : TyX K H x t
  | exc {ea C : Addr} (e : H ea = some (.ext (ExcIs ea C))) (c : ExcCls K C) : TyX K H (.ref ea) (.ref C)
def clsV : V → Value
  | .ref a => .ref a
  | .ty n => .type n
  | _ => .none
def isCls : V → Bool
  | .ref _ => true
  | .ty _ => true
  | _ => false
theorem clsV_rel : ∀ {c : V} {u : Value}, isCls c = true → RelV c u → u = clsV c
  | .ref _, _, _, r => r
  | .ty _, _, _, r => r
section
variable {X : Cx}
theorem tyx_kit {pins : List (Addr × Obj)} {σ : St} {H : Hp} {s : Shared} {x : V} {u t : Value} (I : Inv X pins σ H s) (rx : RelV x u) (ty : TyX X.K H x t) : ∃ J, KitX X.K u t J ∧ J s.heap ∧ u ≠ .builtin "__main__.__loader__#opaque" := by
  cases ty with
  | exc e c =>
    cases (show u = Value.ref _ from rx)
    obtain ⟨J, _⟩ := I.hok _ _ e
    exact ⟨_, kitx_exc c, J, fun z => nomatch z⟩
  | of ty =>
    cases ty with
    | non => cases (show u = Value.none from rx); exact ⟨_, kitx_none, True.intro, fun z => nomatch z⟩
    | bl y => cases (show u = Value.bool y from rx); exact ⟨_, kitx_bool, True.intro, fun z => nomatch z⟩
    | int i => obtain ⟨t, q⟩ := (show ∃ t, u = Value.int i t from rx); cases q; exact ⟨_, kitx_int, True.intro, fun z => nomatch z⟩
    | str y => obtain ⟨t, q⟩ := (show ∃ t, u = Value.str y t from rx); cases q; exact ⟨_, kitx_str, True.intro, fun z => nomatch z⟩
    | flt y => obtain ⟨t, q⟩ := (show ∃ t, u = Value.float y t from rx); cases q; exact ⟨_, kitx_float, True.intro, fun z => nomatch z⟩
    | @lst a xs ea =>
      cases (show u = Value.ref a from rx)
      obtain ⟨_, _, n, _, h1⟩ := (show ObjOk X.prog X.w H s.heap a (.lst xs) from I.hok a _ ea)
      exact ⟨_, kitx_list, ⟨_, h1, rfl⟩, fun z => nomatch z⟩
    | @frz a ob xs ea =>
      cases (show u = Value.ref a from rx)
      obtain ⟨_, _, _, n, _, h1⟩ := (show ObjOk X.prog X.w H s.heap a (.frz ob (.lst xs)) from I.hok a _ ea)
      exact ⟨_, kitx_list, ⟨_, h1, rfl⟩, fun z => nomatch z⟩
    | @tup a xs ea =>
      cases (show u = Value.ref a from rx)
      obtain ⟨_, _, _, p⟩ := (show ObjOk X.prog X.w H s.heap a (.tup xs) from I.hok a _ ea)
      obtain ⟨o, h1, h2, _⟩ := p
      exact ⟨_, kitx_tuple, ⟨o, h1, h2⟩, fun z => nomatch z⟩
    | @dK a kvs ea =>
      cases (show u = Value.ref a from rx)
      obtain ⟨_, _, vs, _, p⟩ := (show ObjOk X.prog X.w H s.heap a (.dK kvs) from I.hok a _ ea)
      obtain ⟨o, es, ep, h1, h2, _⟩ := p
      exact ⟨_, kitx_dict, ⟨o, h1, h2.1⟩, fun z => nomatch z⟩
    | @dT a kvs ea =>
      cases (show u = Value.ref a from rx)
      obtain ⟨_, _, xs, _, o, es, ep, h1, h2, _⟩ := (show ObjOk X.prog X.w H s.heap a (.dT kvs) from I.hok a _ ea)
      exact ⟨_, kitx_dict, ⟨o, h1, h2.1⟩, fun z => nomatch z⟩
    | @ins a C dx fs ea cl ha hn htk hm =>
      cases (show u = Value.ref a from rx)
      obtain ⟨mA, O, _⟩ := ins_get I.hok ea
      obtain ⟨od, J, _⟩ := O.look
      exact ⟨_, kitx_own (cl.get _) cl.hd ha hn htk hm, J, fun z => nomatch z⟩
theorem call_isi : CallR X (.builtin "isinstance") (fun xs H Q => ∃ x c t b, xs = [x, c] ∧ isCls c = true ∧ TyX X.K H x t ∧ kitOne X.K t (clsV c) = some b ∧ Q (.bl b) H) := by
  intro pins s σ H xs us Q I r h
  obtain ⟨x, c, t, b, rfl, hc, ty, e, q⟩ := h
  obtain ⟨u, v, rfl, r1, r2⟩ := vals2 r
  rw [clsV_rel hc r2]
  obtain ⟨J, Z, hJ, hx⟩ := tyx_kit I r1 ty
  exact kia_one Z I.kIn hJ e hx fun tk => ⟨.bl b, H, I.tok tk, rfl, q⟩
end
end L2
set_option Elab.async false
set_option linter.all false
set_option maxRecDepth 100000
namespace L2
open PySem PySem.Spec PyProof.Rows PySem.W
end L2
set_option Elab.async false
set_option linter.all false
set_option maxRecDepth 100000
namespace L2
open PySem PySem.Spec PyProof.Rows
def ItE (K : PySem.W.Frag) (a : Addr) : It :=
  ⟨fun i H => ∃ xs x, SqL K H a xs ∧ xs[i]? = some x, fun i H x H' => ∃ p y, H p = none ∧ x = .ref p ∧ H' = upd H p (.tup [.int i, y]) ∧ ∀ xs, SqL K H a xs → xs[i]? = some y, fun i H => ∃ xs, SqL K H a xs ∧ xs.length ≤ i⟩
theorem turn_enumL {P : Program} {w : World} {K : PySem.W.Frag} {elts : List Expr} {kx : Nat} {px : Pos} (a e it : Addr) (hei : e ≠ it) :
    Turn P w K (.Tuple elts kx px) (ItE K a) [e, it] e (fun i h => (∃ old, IsEnum h e it (i : Nat) old) ∧ h.IsListIter it a i) where
  mem := by simp
  obj := fun i h st b hb => by
    obtain ⟨⟨old, he⟩, ⟨o, ho, c, d⟩⟩ := st
    rcases List.mem_cons.mp hb with rfl | hb
    · exact ⟨_, he, fun v z => by
        have z' : Data.fields _ = Data.cell v := z
        cases z'⟩
    · obtain rfl := List.mem_singleton.mp hb
      exact ⟨o, ho, fun v z => by rw [d] at z; cases z⟩
  keep := fun i h h' st k => ⟨let ⟨old, he⟩ := st.1; ⟨old, k e (by simp) _ he⟩, st.2.at fun o q => k it (by simp) o q⟩
  item := by
    intro X hP hw hK hc i pins s σ H E I hf st hg
    subst hP hw hK
    obtain ⟨⟨old, he⟩, hit⟩ := st
    obtain ⟨xs, x, hq, hx⟩ := hg
    obtain ⟨its, rv, tp, hz⟩ := I.list hq
    obtain ⟨u, hu, ru⟩ := rv.get hx
    have hil : i < xs.length := (List.getElem?_eq_some_iff.mp hx).1
    have tp' : s.heap.IsList a its.toArray := tp.isList
    have nai : a ≠ it := fun z => by
      obtain ⟨o, g1, g2, _⟩ := tp'
      obtain ⟨o', g1', g2', _⟩ := hit
      rw [z, g1'] at g1
      cases g1
      rw [g2'] at g2
      exact absurd g2 (by decide)
    have nae : a ≠ e := fun z => by
      obtain ⟨o, g1, g2, _⟩ := tp'
      rw [z, he] at g1
      cases g1
      have g3 : Value.type "enumerate" = Value.type "list" := g2
      exact absurd g3 (by decide)
    have D := Draws.list (prog := X.prog) (w := X.w) (A := X.A.in1) (by exact I.ok.hd hc) it a nai its.toArray
    refine wpAny_pyNext_enum_itemD D he ⟨hit, tp'⟩ (by rw [List.size_toArray, ← rv.length]; exact hil) hei (by simp [hei, nae.symm]) fun y h' tk hP ho hs' hT hsz hk => ?_
    have ey : y = u := by
      rw [List.getElem?_toArray, hu] at hP
      exact (Option.some.inj hP).symm
    subst ey
    refine ⟨_, rfl, wpAny_letOwnedTupleGo_enum ho fun h2 he2 hs2 => ?_⟩
    have ne1 : s.heap.objs.size ≠ e := Nat.ne_of_gt (Heap.lt_size he)
    have k2 : ∀ b o, b ≠ e → b ≠ it → s.heap.get? b = some o → h2.get? b = some o := fun b o n1 n2 q => (hs2.2 b n1).trans (hk b o n1 n2 q)
    have I1 : Inv X pins σ H { s with heap := h2, toks := tk + 1 } := I.turned2 k2 (hf e (by simp)) (hf it (by simp))
    have hn : H s.heap.objs.size = none := I.hok.fresh (Nat.le_refl _)
    have FP := I.fpOk (b := s.heap.objs.size) (Nat.le_refl _) hn
    have hT2 : h2.get? s.heap.objs.size = some { cls := .type "tuple", data := .seq #[.int i tk, y] } := (hs2.2 _ ne1).trans hT
    have I2 := I1.track (p := s.heap.objs.size) (o := .tup [.int i, x]) hn (Heap.get?_none_of_le I.sz) FP.2.1 FP.2.2.2.2.1 FP.2.2.2.2.2
      ⟨by show 2 ≤ sizeLine; decide, [.int i tk, y], .cons ⟨tk, rfl⟩ (.cons ru .nil), ⟨_, hT2, rfl, _, rfl⟩⟩
    refine ⟨.ref s.heap.objs.size, _, I2, rfl, ⟨_, x, hn, rfl, rfl, fun ys hy => ?_⟩, ⟨⟨y, by simpa using he2⟩, hs'.1.at fun o q => (hs2.2 it hei.symm).trans q⟩, fun b hb => ?_⟩
    · rw [I.list_inj hy hq]; exact hx
    · have hb2 : b ≠ s.heap.objs.size := by
        rcases List.mem_cons.mp hb with rfl | hb
        · exact ne1.symm
        · obtain rfl := List.mem_singleton.mp hb
          obtain ⟨o, g, _⟩ := hit
          exact Nat.ne_of_lt (Heap.lt_size g)
      rw [upd_ne hb2]
      exact (hf b hb).1
  done := by
    intro X hP hw hK hc i pins s σ H E I hf st hg
    subst hP hw hK
    obtain ⟨⟨old, he⟩, hit⟩ := st
    obtain ⟨xs, hq, hx⟩ := hg
    obtain ⟨its, rv, tp, hz⟩ := I.list hq
    have tp' : s.heap.IsList a its.toArray := tp.isList
    have nai : a ≠ it := fun z => by
      obtain ⟨o, g1, g2, _⟩ := tp'
      obtain ⟨o', g1', g2', _⟩ := hit
      rw [z, g1'] at g1
      cases g1
      rw [g2'] at g2
      exact absurd g2 (by decide)
    have hl := rv.length
    have hT : s.TypeIs (.ref e) "enumerate" := ⟨_, he, rfl⟩
    obtain ⟨f0, f1, f2, f3, f4, f5⟩ := hf it (by simp)
    unfold pyNext
    refine wpAny_bind (wpAny_attempt (wpAny_callSpecial?_slot (name := Str.ofString "__next__") hT F.slot_enumerate_next ?_))
    refine wpAny_call_entry F.slot_enumerate_next hT F.entry_enumerate_next ?_ (F.args_enumerate_next_1 _)
    show wpAny _ _ (field (.ref e) 2 >>= _) _ _ _
    refine wpAny_bind (wpAny_field he rfl (x := .ref it) rfl ?_)
    refine wpAny_bind (wpAny_nextOf_list_end (by exact I.ok.hd hc) hit tp' (by simp; omega) fun h' x ext hex => ?_)
    obtain ⟨o, g1, g2⟩ := hex
    refine wpAny_bind (wpAny_isInstance (T := "StopIteration") (b := true) ⟨o, g1, g2⟩ isSubtype_stop ?_)
    exact wpAny_pure ⟨rfl, I.turned (t' := s.toks) (fun b ob nb q => ext b ob nb q) f0 f1 f3 f4 f5⟩
  self := fun _ _ _ _ _ st h => let ⟨⟨_, he⟩, _⟩ := st; wpAny_pyIter_enum he h
def iEnL (K : PySem.W.Frag) (ta : TA) : TI := fun σ H R => ta σ H fun vs H1 => ∃ a, vs = [.ref a] ∧ (∃ xs, SqL K H1 a xs) ∧ R (ItE K a) H1
theorem pi_enumL {X : Cx} {l : Expr} {ta : TA} {elts : List Expr} {kx : Nat} {px p pos : Pos} (hg : Gl X "enumerate") (hm : X.mg "enumerate" = none) (ha : PA X [l] ta) (hs : starEach [l] X.env = [(false, eval l X.env)] := by rfl) :
    PI X (.Tuple elts kx px) (.Call (.Name "enumerate" p) [l] [] pos) (iEnL X.K ta) := by
  intro pins s σ H R I h
  refine Call_ (ld_blt I hg hm boot_enumerate (PyProof.Rows.callWith_type1 (thn (ha pos pins s σ H _ I h) fun us s1 ⟨vs, H1, I1, r1, q1⟩ => ?_) hs rfl))
  obtain ⟨a, e, ⟨xs, hq⟩, q⟩ := q1
  subst e
  cases r1 with
  | cons r rr =>
    cases rr
    cases r
    obtain ⟨its, rv, tp, hz⟩ := I1.list hq
    refine call_enumerate_list tp.isList fun h' he hit hsz hk => ?_
    refine wpAny_pyIter_enum he ?_
    refine ⟨s1.heap.objs.size + 1, [s1.heap.objs.size + 1, s1.heap.objs.size], _, _, H1, rfl, I1.kept (t' := s1.toks) hk, turn_enumL a _ _ (Nat.succ_ne_self _), ⟨⟨_, he⟩, hit⟩, fun b hb => ?_, q⟩
    rcases List.mem_cons.mp hb with rfl | hb
    · exact I1.fpOk (Nat.le_succ _) (I1.hok.fresh (Nat.le_succ _))
    · obtain rfl := List.mem_singleton.mp hb
      exact I1.fpOk (Nat.le_refl _) (I1.hok.fresh (Nat.le_refl _))
theorem for_enumL {K : PySem.W.Frag} {a : Addr} {xs : List V} {g : TG} {tb : TS} {D : Ends} {σ : St} {H : Hp} (Pv : Nat → St → Hp → Prop) (h0 : Pv 0 σ H) (hl : ∀ i σ H, i ≤ xs.length → Pv i σ H → SqL K H a xs)
    (hs : ∀ i x σ H p, xs[i]? = some x → Pv i σ H → H p = none → g (.ref p) σ (upd H p (.tup [.int i, x])) fun σ2 H2 => tb { D with nx := Pv (i + 1), ct := Pv (i + 1), bk := D.nx } σ2 H2) (hd : ∀ σ H, Pv xs.length σ H → D.nx σ H) :
    ∃ W : Nat → Nat → St → Hp → Prop, (∃ m, W 0 m σ H) ∧ ∀ i m σ H, W i m σ H →
      ((ItE K a).stop i H ∧ D.nx σ H) ∨ ((ItE K a).go i H ∧ ∃ N : St → Hp → Prop, (∀ σ' H', N σ' H' → ∃ m', m' < m ∧ W (i + 1) m' σ' H') ∧ ∀ x H', (ItE K a).yld i H x H' → g x σ H' fun σ2 H2 => tb { D with nx := N, ct := N, bk := D.nx } σ2 H2) := by
  refine ⟨fun i m σ H => m = xs.length - i ∧ i ≤ xs.length ∧ Pv i σ H, ⟨xs.length, by simp, Nat.zero_le _, h0⟩, ?_⟩
  rintro i m σ H ⟨rfl, hi, p⟩
  have q := hl i σ H hi p
  by_cases hlt : i < xs.length
  · refine .inr ⟨⟨xs, xs[i], q, by simp [hlt]⟩, Pv (i + 1), fun σ' H' p' => ⟨xs.length - (i + 1), by omega, rfl, hlt, p'⟩, fun x H' y => ?_⟩
    obtain ⟨pp, v, hn, e1, e2, y⟩ := y
    subst e1 e2
    exact hs i v σ H pp (y xs q) p hn
  · have e : i = xs.length := by omega
    subst e
    exact .inl ⟨⟨xs, q, Nat.le_refl _⟩, hd σ H p⟩
section
variable {X : Cx}
theorem lst_walk' {pins : List (Addr × Obj)} {σ : St} {H : Hp} {s : Shared} {a : Addr} {its : List Value} (I : Inv X pins σ H s) (tp : s.heap.IsList a its.toArray) (hc : X.calm = true) {Q : Value → Shared → Prop}
    (q : ∀ s2 : Shared, s2 = { s with heap := s.heap.push { cls := .type "list_iterator", data := .fields #[.ref a, .int 0 0] } } → Walks X.prog X.w X.A.in1 s.heap.objs.size [s.heap.objs.size, a] [s.heap.objs.size] its.toArray.size (fun i v => its.toArray[i]? = some v) (fun i h => h.IsListIter s.heap.objs.size a i ∧ h.IsList a its.toArray) →
      (s2.heap.IsListIter s.heap.objs.size a 0 ∧ s2.heap.IsList a its.toArray) → (∀ b ∈ [s.heap.objs.size, a], b < s2.heap.objs.size) → Q (.ref s.heap.objs.size) s2) : wpAny (model X.prog X.w) X.A.in1 (pyIter (.ref a)) Q X.xe s := by
  have hlt : a < s.heap.objs.size := by obtain ⟨_, e, _⟩ := tp; exact Heap.lt_size e
  refine wpAny_pyIter_list tp (q _ rfl (Walks.list (by exact I.ok.hd hc) _ _ (Nat.ne_of_lt hlt) _) ⟨⟨_, Heap.get?_push_size _ rfl, rfl, rfl⟩, ?_⟩ fun b hb => ?_)
  · obtain ⟨o, e, r⟩ := tp
    exact ⟨o, Heap.get?_push_of_some _ e, r⟩
  · show b < (s.heap.push _).objs.size
    rw [Heap.size_push]
    rcases List.mem_cons.mp hb with rfl | hb
    · exact Nat.lt_succ_self _
    · rw [List.mem_singleton.mp hb]
      exact Nat.lt_succ_of_lt hlt
theorem preSum_take (ns : List Int) : ∀ k, k ≤ ns.length → preSum (fun i => ns.getD i 0) k = (ns.take k).sum
  | 0, _ => rfl
  | k + 1, h => by
    show preSum _ k + ns.getD k 0 = _
    rw [preSum_take ns k (by omega), ← List.take_append_getElem (by omega : k < ns.length), List.sum_append, getD_at (by omega)]
    simp
end
end L2
set_option Elab.async false
set_option linter.all false
set_option maxRecDepth 100000
namespace L2
open PySem PySem.Spec PyProof.Rows
theorem iteF_of {A B : Prop} (h : if false = true then A else B) : B := by rwa [if_neg Bool.false_ne_true] at h
theorem iteT_of {A B : Prop} (h : if true = true then A else B) : A := by rwa [if_pos rfl] at h
def cxComp (X : Cx) (Nc : List Str) (scope : Scope) (cl : List (Str × Addr)) (s : Shared) (H : Hp) (C : Addr) (fp : List Addr) : Cx :=
  { X with N := Nc, s₀ := s, H₀ := H, env := compEnvC scope cl C X.env, outer := X.stack, ex := fp, fn := fun _ => false, pn := [], xe := fun _ _ => False }
def seen (ix : List (Option Nat)) (σ : St) : St := ix.map fun o => match o with
  | some j => (σ[j]?).getD none
  | none => none
theorem closure_of {scope : Scope} {env : Env} (h : ∀ x ∈ scope.names, x.2 = .free → ∃ c, env.cells.lookup x.1 = some c) :
    ∃ cl, closureFor scope env = pure cl ∧ (∀ x c, cl.lookup x = some c → env.cells.lookup x = some c) ∧ ∀ x ∈ scope.names, x.2 = .free → ∃ c, cl.lookup x.1 = some c := by
  have go : ∀ (ns : List (Str × NameKind)) (cs : List (Str × Addr)), (∀ x ∈ ns, x.2 = .free → ∃ c, env.cells.lookup x.1 = some c) → (∀ x c, cs.lookup x = some c → env.cells.lookup x = some c) →
      ∃ cl, (forIn ns cs fun (x : Str × NameKind) (r : List (Str × Addr)) => (if (x.2 == .free) = true then (do let c ← cellOf env x.1; pure (ForInStep.yield ((x.1, c) :: r))) else pure (ForInStep.yield r) : Sem _)) = pure cl ∧
        (∀ x c, cl.lookup x = some c → env.cells.lookup x = some c) ∧ (∀ x ∈ ns, x.2 = .free → ∃ c, cl.lookup x.1 = some c) ∧ ∀ x c, cs.lookup x = some c → ∃ c', cl.lookup x = some c' := by
    intro ns
    induction ns with
    | nil => intro cs _ h2; exact ⟨cs, rfl, h2, fun x hx => (nomatch hx), fun x c e => ⟨c, e⟩⟩
    | cons p r ih =>
      obtain ⟨n, k⟩ := p
      intro cs h1 h2
      by_cases hk : k = .free
      · subst hk
        obtain ⟨c, hc⟩ := h1 (n, .free) List.mem_cons_self rfl
        have hcs : ∀ x c', List.lookup x ((n, c) :: cs) = some c' → env.cells.lookup x = some c' := fun x c' e => by
          rw [List.lookup_cons] at e
          cases hx : x == n with
          | true => rw [hx] at e; cases e; rw [eq_of_beq hx]; exact hc
          | false => rw [hx] at e; exact h2 x c' e
        obtain ⟨cl, e1, e2, e3, e4⟩ := ih ((n, c) :: cs) (fun x hx => h1 x (List.mem_cons_of_mem _ hx)) hcs
        refine ⟨cl, ?_, e2, fun x hx hf => ?_, fun x c' e => ?_⟩
        · rw [List.forIn_cons]
          have : cellOf env n = pure c := by unfold cellOf; rw [hc]
          simp only [beq_self_eq_true, if_true, this, pure_bind]
          exact e1
        · rcases List.mem_cons.mp hx with rfl | hx
          · exact e4 n c (by rw [List.lookup_cons, beq_self_eq_true])
          · exact e3 x hx hf
        · cases hx : x == n with
          | true => exact e4 x c (by rw [List.lookup_cons, hx])
          | false => exact e4 x c' (by rw [List.lookup_cons, hx]; exact e)
      · obtain ⟨cl, e1, e2, e3, e4⟩ := ih cs (fun x hx => h1 x (List.mem_cons_of_mem _ hx)) h2
        refine ⟨cl, ?_, e2, fun x hx hf => ?_, e4⟩
        · rw [List.forIn_cons]
          have hb : (k == NameKind.free) = false := by simpa using hk
          simp only [hb, Bool.false_eq_true, if_false, pure_bind]
          exact e1
        · rcases List.mem_cons.mp hx with rfl | hx
          · exact absurd hf hk
          · exact e3 x hx hf
  obtain ⟨cl, e1, e2, e3, _⟩ := go scope.names [] h (fun x c e => by cases e)
  refine ⟨cl, ?_, e2, e3⟩
  unfold closureFor
  simp only [bind_pure]
  exact e1
def PTs (X : Cx) (ifs : List Expr) (t : TT) : Prop :=
  ∀ (pins : List (Addr × Obj)) (s : Shared) (σ : St) (H : Hp) (Q : Bool → Hp → Prop), Inv X pins σ H s → t σ H Q →
    wpAny (model X.prog X.w) X.A (forIn ifs true fun c r => if r = true then do let ok ← isTrue c X.env (eval c X.env); pure (ForInStep.yield ok) else pure (ForInStep.yield r)) (TP X pins σ Q) X.xe s
def tYes : TT := fun _ H Q => Q true H
theorem pts_nil {X : Cx} : PTs X [] tYes := fun _ _ _ H _ I h => wpAny_tests_nil ⟨H, I, h⟩
theorem pts_one {X : Cx} {c : Expr} {t : TT} (h : PT X c t) : PTs X [c] t := fun pins s σ H Q I q => wpAny_tests_one (h pins s σ H Q I q)
def tCompR (wi : TI) (ix : List (Option Nat)) (g : TG) (tc : TT) (te : TE) (σ : St) (H : Hp) (R : List V → Hp → Prop) : Prop := wi σ H fun J H1 => ∃ W : Nat → Nat → List V → St → Hp → Prop, (∃ m, W 0 m [] (seen ix σ) H1) ∧ ∀ i m ys σ' H', W i m ys σ' H' →
  (J.stop i H' ∧ ys.length ≤ sizeLine ∧ R ys H') ∨
  (J.go i H' ∧ ys.length ≤ sizeLine ∧ ∃ N : List V → St → Hp → Prop, (∀ ys' σ2 H2, N ys' σ2 H2 → ∃ m', m' < m ∧ W (i + 1) m' ys' σ2 H2) ∧
    ∀ x H2, J.yld i H' x H2 → g x σ' H2 fun σ2 H3 => tc σ2 H3 fun b H4 => if b = true then te σ2 H4 fun y H5 => N (ys ++ [y]) σ2 H5 else N ys σ2 H4)
def tComp (wi : TI) (ix : List (Option Nat)) (g : TG) (tc : TT) (te : TE) : TE := fun σ H Q => tCompR wi ix g tc te σ H fun ys H' => ∀ l, H' l = none → Q (.ref l) (upd H' l (.lst ys))
def compOk (scope outer : Scope) (N Nc : List Str) (ix : List (Option Nat)) : Bool :=
  scope.names.all (fun y => y.2 != .cell) && scope.kind == .function && scope.names.all (fun y => y.2 != .local || scope.names.lookup y.1 == some .local) &&
  scope.names.all (fun y => y.2 != .free || outer.names.lookup y.1 == some .cell || outer.names.lookup y.1 == some .free) && ix.length == Nc.length &&
  (List.range Nc.length).all fun i => match ix[i]?, Nc[i]? with
    | some (some j), some x => N[j]? == some x && (outer.names.lookup x == some .cell || outer.names.lookup x == some .free) && scope.names.lookup x == some .free
    | _, _ => true
theorem relabel_of {env : Env} : ∀ {names : List (Str × NameKind)} {y : Str} {k : NameKind}, (∀ z ∈ names, z.2 ≠ .cell) →
    (names.map fun (n, k) => if (k == NameKind.free && env.scope.kind == .function && env.kindOf n == some .cell) then (n, NameKind.cell) else (n, k)).lookup y = some k → k = .cell ∨ k = .free → ∃ z ∈ names, z.1 = y ∧ z.2 = .free
  | [], _, _, _, h, _ => by simp at h
  | (n, k0) :: r, y, k, hc, h, hk => by
    rw [List.map_cons] at h
    have h : List.lookup y ((if (k0 == NameKind.free && env.scope.kind == .function && env.kindOf n == some .cell) = true then (n, NameKind.cell) else (n, k0)) :: _) = some k := h
    cases hx : y == n with
    | true =>
      by_cases hb : (k0 == NameKind.free && env.scope.kind == .function && env.kindOf n == some .cell) = true
      · simp only [Bool.and_eq_true, beq_iff_eq] at hb
        exact ⟨(n, k0), List.mem_cons_self, (eq_of_beq hx).symm, hb.1.1⟩
      · rw [if_neg hb, List.lookup_cons, hx] at h
        cases h
        rcases hk with rfl | rfl
        · exact absurd rfl (hc (n, .cell) List.mem_cons_self)
        · exact ⟨(n, .free), List.mem_cons_self, (eq_of_beq hx).symm, rfl⟩
    | false =>
      have h' : List.lookup y (r.map fun (n, k) => if (k == NameKind.free && env.scope.kind == .function && env.kindOf n == some .cell) then (n, NameKind.cell) else (n, k)) = some k := by
        by_cases hb : (k0 == NameKind.free && env.scope.kind == .function && env.kindOf n == some .cell) = true
        · rw [if_pos hb, List.lookup_cons, hx] at h; exact h
        · rw [if_neg hb, List.lookup_cons, hx] at h; exact h
      obtain ⟨z, hz, e1, e2⟩ := relabel_of (fun z hz => hc z (List.mem_cons_of_mem _ hz)) h' hk
      exact ⟨z, List.mem_cons_of_mem _ hz, e1, e2⟩
theorem relabel_free {env : Env} : ∀ {names : List (Str × NameKind)} {y : Str}, names.lookup y = some .free →
    (names.map fun (n, k) => if (k == NameKind.free && env.scope.kind == .function && env.kindOf n == some .cell) then (n, NameKind.cell) else (n, k)).lookup y = some .cell ∨
    (names.map fun (n, k) => if (k == NameKind.free && env.scope.kind == .function && env.kindOf n == some .cell) then (n, NameKind.cell) else (n, k)).lookup y = some .free
  | [], _, h => by simp at h
  | (n, k0) :: r, y, h => by
    rw [List.map_cons]
    show List.lookup y ((if (k0 == NameKind.free && env.scope.kind == .function && env.kindOf n == some .cell) = true then (n, NameKind.cell) else (n, k0)) :: _) = _ ∨ List.lookup y ((if (k0 == NameKind.free && env.scope.kind == .function && env.kindOf n == some .cell) = true then (n, NameKind.cell) else (n, k0)) :: _) = _
    cases hx : y == n with
    | true =>
      rw [List.lookup_cons, hx] at h
      cases h
      by_cases hb : ((NameKind.free == NameKind.free) && env.scope.kind == .function && env.kindOf n == some .cell) = true
      · rw [if_pos hb, List.lookup_cons, hx]; exact .inl rfl
      · rw [if_neg hb, List.lookup_cons, hx]; exact .inr rfl
    | false =>
      rw [List.lookup_cons, hx] at h
      by_cases hb : (k0 == NameKind.free && env.scope.kind == .function && env.kindOf n == some .cell) = true
      · rw [if_pos hb, List.lookup_cons, hx]; exact relabel_free h
      · rw [if_neg hb, List.lookup_cons, hx]; exact relabel_free h
theorem comp_core {X : Cx} {elt tg iter : Expr} {ifs : List Expr} {scope : Scope} {pos ipos : Pos} {Nc : List Str} {ix : List (Option Nat)} {wi : TI} {g : TG} {tc : TT} {te : TE} {use : Option (Value → Sem Unit)} {Q' : Value → Shared → Prop} {R : List V → Hp → Prop}
    {pins : List (Addr × Obj)} {σ : St} {H : Hp} {s : Shared} (hc : X.calm = true)
    (hcell : ∀ y ∈ scope.names, y.2 ≠ .cell) (hkind : scope.kind = .function) (hnames : ∀ y ∈ scope.names, y.2 = .local → scope.names.lookup y.1 = some .local)
    (hfree : ∀ y ∈ scope.names, y.2 = .free → X.env.kindOf y.1 = some .cell ∨ X.env.kindOf y.1 = some .free) (hvis : ∀ y k, (relabel scope X.env).names.lookup y = some k → k = .cell ∨ k = .free → ∃ z ∈ scope.names, z.1 = y ∧ z.2 = .free)
    (hlen : ix.length = Nc.length) (hix : ∀ (i : Nat) (x : Str) (j : Nat), Nc[i]? = some x → ix[i]? = some (some j) → X.N[j]? = some x ∧ Vis X.env.scope x ∧ (X.env.kindOf x = some .local → False) ∧ ((relabel scope X.env).names.lookup x = some .cell ∨ (relabel scope X.env).names.lookup x = some .free))
    (hi : PI X tg iter wi) (hg : ∀ cl s H C fp, PG (cxComp X Nc scope cl s H C fp) tg g) (hifs : ∀ cl s H C fp, PTs (cxComp X Nc scope cl s H C fp) ifs tc) (he : ∀ cl s H C fp, PE (cxComp X Nc scope cl s H C fp) elt te)
    (hs : ∀ x, foldedSetIterable iter X.env x = pure x) (I : Inv X pins σ H s) (h : tCompR wi ix g tc te σ H R)
    (fin : ∀ (D C : Addr) (oC : Obj) (ys : List V) (H3 : Hp) (s4 : Shared), (∃ m, ∀ h' : Heap, h'.get? C = some oC → h'.Ns C m) → H3 D = none → (upd H3 D (.lst ys)) C = none → Young X pins C → Inv X (pins ++ [(C, oC)]) σ (upd H3 D (.lst ys)) s4 → R ys H3 →
      compPost (model X.prog X.w) X.A X.xe use Q' (.ref D) C (.ok .next) s4) :
    wpAny (model X.prog X.w) X.A (comprehension (.ListComp elt [⟨tg, iter, ifs, 0⟩] scope pos) scope X.env ipos (newList []) false (eval iter X.env) use) Q' X.xe s := by
  obtain ⟨cl, hclos, clX, clF⟩ := closure_of (scope := scope) (env := X.env) fun x hx hf => I.ok.has x.1 (hfree x hx hf)
  refine wpAny_comprehension_free (use := use) rfl hs hclos hkind hnames (thn (hi pins s σ H _ I h) fun v s1 h1 => thn h1 fun itv s2 h2 => ?_)
  obtain ⟨it, fp, tn, J, H1, rfl, I1, T, t0, hfp, W, ⟨m0, w0⟩, turn⟩ := h2
  refine wpAny_newObj_type (wpAny_newFunctionEnv hcell (by intro y hy; simp at hy) (fun h₁ hns₁ hsb₁ => ?_) hkind)
  dsimp only at hns₁ hsb₁ ⊢
  generalize hH2 : s2.heap.push { cls := .type "list", dict := none, data := .seq ([] : List Value).toArray } = H2 at hns₁ hsb₁ ⊢
  have hC : H2.objs.size = s2.heap.objs.size + 1 := by rw [← hH2, Heap.size_push]
  have hDC : s2.heap.objs.size ≠ H2.objs.size := by rw [hC]; exact Nat.ne_of_lt (Nat.lt_succ_self _)
  have old : ∀ b o, s2.heap.get? b = some o → h₁.get? b = some o := fun b o e => by
    have hb := Heap.lt_size e
    exact hsb₁.extBut b o (by rw [hC]; exact Nat.ne_of_lt (Nat.lt_succ_of_lt hb)) (Heap.get?_push_of_some _ (hH2 ▸ Heap.get?_push_of_some _ e))
  obtain ⟨e0, hacc⟩ : ∃ e0, h₁.get? s2.heap.objs.size = some (seqObj "list" ([] : List Value).toArray e0) := ⟨_, hsb₁.extBut _ _ hDC (Heap.get?_push_of_some _ (hH2 ▸ Heap.get?_push_size _ rfl))⟩
  generalize hCC : H2.objs.size = C at hns₁ hsb₁ hDC hC ⊢
  generalize hDD : s2.heap.objs.size = D at hDC hC hacc ⊢
  have hDle : s2.heap.objs.size ≤ D := Nat.le_of_eq hDD
  have hCle : s2.heap.objs.size ≤ C := by rw [hC, ← hDD]; exact Nat.le_succ _
  have yD := I1.young hDle
  have nD : H1 D = none := I1.hok.fresh hDle
  have nC : H1 C = none := I1.hok.fresh hCle
  have fpLt : ∀ b ∈ fp, b < s2.heap.objs.size := fun b hb => by
    obtain ⟨o, e, _⟩ := T.obj 0 _ t0 b hb
    exact Heap.lt_size e
  have fpD : D ∉ fp := fun hm => absurd (fpLt _ hm) (Nat.not_lt.mpr hDle)
  have fpC : C ∉ fp := fun hm => absurd (fpLt _ hm) (Nat.not_lt.mpr hCle)
  have frN : ∀ b ∈ frs X.stack, b < s2.heap.objs.size := fun b hb => by
    obtain ⟨_, o, ho, _⟩ := I1.stack.mem hb
    exact Heap.lt_size ho
  have frFp : ∀ b ∈ fp, b ∉ frs X.stack := fun b hb hm => by
    rcases List.mem_cons.mp (I1.stkSub b hm) with z | z
    · exact (hfp b hb).2.1 z
    · exact (hfp b hb).2.2.1 z
  -- the block's context
  have ok : (cxComp X Nc scope cl s2 H1 C fp).Ok :=
    ⟨I.ok.mod, (by show (relabel scope X.env).kind = _; exact hkind), I.ok.glob, I.ok.blt, hCle, (fun x y c e1 e2 => I.ok.inj x y c (clX x c e1) (clX y c e2)),
      (fun x hx => by
        obtain ⟨z, hz, rfl, hf⟩ : ∃ z ∈ scope.names, z.1 = x ∧ z.2 = .free := by
          rcases hx with hx | hx
          · exact hvis x _ hx (.inl rfl)
          · exact hvis x _ hx (.inr rfl)
        exact clF z hz hf), (fun x c z => nomatch z), I.ok.hd, I.ok.frames, .inl rfl,
      (fun b hb => ⟨fun z => fpC ((show b = C from z) ▸ hb), fun x c e => (hfp b hb).2.2.2.2.1 x c (clX x c e)⟩), (fun b o e => I1.bs b o e), Nat.le_trans I.ok.bsz I1.sz,
      (fun b o e hb => by
        rcases (hfp b hb).2.2.2.1 with z | z
        · exact I.ok.noex b o e z
        · have := Heap.lt_size (I.ok.bs b o e).1
          exact absurd this (Nat.not_lt.mpr z)),
      frFp, I1.stack, I1.stkFree⟩
  have start : ∀ tk, Inv (cxComp X Nc scope cl s2 H1 C fp) [(D, seqObj "list" ([] : List Value).toArray e0)] (seen ix σ) H1 { s2 with heap := h₁, toks := tk } := fun tk => by
    refine ⟨ok, rfl, I1.bare, Un.kept old, ⟨_, hns₁, fun i x v e1 e2 e3 => ?_⟩, fun x c e => ?_, nC, fun x c e => I1.freeC x c (clX x c e), fun p hp => ?_, I1.hok.kept old, by show (seen ix σ).length = Nc.length; unfold seen; rw [List.length_map]; exact hlen⟩
    · unfold seen at e2
      rw [List.getElem?_map] at e2
      cases ei : ix[i]? with
      | none => rw [ei] at e2; cases e2
      | some o =>
        rw [ei] at e2
        cases o with
        | none => cases e2
        | some j =>
          have e2' : (σ[j]?).getD none = some v := Option.some.inj e2
          have e2'' : σ[j]? = some (some v) := by
            cases ej : σ[j]? with
            | none => rw [ej] at e2'; cases e2'
            | some z => rw [ej] at e2'; exact congrArg some e2'
          obtain ⟨n1, n2, n3, n4⟩ := hix i x j e1 ei
          obtain ⟨m, hm, hl⟩ := I1.loc
          obtain ⟨u, ru, lk⟩ := hl j x v n1 e2'' n2
          refine ⟨u, ru, .inr ⟨n4, ?_⟩⟩
          rcases lk with ⟨k, _⟩ | ⟨_, c, ec, hc'⟩
          · exact (n3 k).elim
          · obtain ⟨z, hz, rfl, hf⟩ : ∃ z ∈ scope.names, z.1 = x ∧ z.2 = .free := by
              rcases n4 with hx | hx
              · exact hvis x _ hx (.inl rfl)
              · exact hvis x _ hx (.inr rfl)
            obtain ⟨c', ec'⟩ := clF z hz hf
            have : c' = c := Option.some.inj ((clX _ _ ec').symm.trans ec)
            subst this
            obtain ⟨o, ho, hd⟩ := hc'
            exact ⟨c', ec', o, old _ o ho, hd⟩
    · obtain ⟨v, o, ho, hd⟩ := I1.cell x c (clX x c e)
      exact ⟨v, o, old _ o ho, hd⟩
    · have hp' : p = (D, seqObj "list" ([] : List Value).toArray e0) := by simpa [cxComp] using hp
      subst hp'
      exact ⟨hacc, nD, hDC, fun hm => absurd (frN _ hm) (Nat.not_lt.mpr hDle), fun v z => by cases z⟩
  have stat : ∀ {ks : List Value} {e : Nat} {H' : Hp}, (∀ b ∈ fp, H' b = none) → ∀ b ∈ fp, FpOk (cxComp X Nc scope cl s2 H1 C fp) [(D, seqObj "list" ks.toArray e)] H' b := fun {ks e H'} hn b hb =>
    ⟨hn b hb, fun z => fpC ((show b = C from z) ▸ hb), frFp b hb, .inl hb, fun x c ec => (hfp b hb).2.2.2.2.1 x c (clX x c ec), fun p hp z => by
      have hp' : p = (D, seqObj "list" ks.toArray e) := by simpa [cxComp] using hp
      subst hp'
      exact fpD ((show b = D from z.symm) ▸ hb)⟩
  have loop : ∀ tk, codeAny (model X.prog X.w) X.A (.compLoop (.ListComp elt [⟨tg, iter, ifs, 0⟩] scope pos) 0 (.ref it) (.ref D) (compEnvC scope cl C X.env)) (compPost (model X.prog X.w) X.A X.xe use Q' (.ref D) C) { s2 with heap := h₁, toks := tk } := fun tk => by
    refine codeAny_loop rfl (fun n s' => ∃ i ys ks e σ' H', Inv (cxComp X Nc scope cl s2 H1 C fp) [(D, seqObj "list" ks.toArray e)] σ' H' s' ∧ Vals ys ks ∧ tn i s'.heap ∧ (∀ b ∈ fp, H' b = none) ∧ W i n ys σ' H') ?_ m0
      ⟨0, [], [], e0, _, H1, start tk, .nil, T.keep _ _ _ t0 fun b _ o e => old b o e, fun b hb => (hfp b hb).1, w0⟩
    rintro n s3 ⟨i, ys, ks, e, σ3, H3, I3, rv, st3, fr3, w3⟩
    show wpAny _ X.A ((compTurn (.ListComp elt [⟨tg, iter, ifs, 0⟩] scope pos) 0 (.ref it) (.ref D) (compEnvC scope cl C X.env)).onRaise (fun x => do noteFrame x (compEnvC scope cl C X.env); theTreesLotGoes x)) _ _ s3
    refine wpAny_noted ?_
    rw [compTurn_list]
    refine wpAny_bind (wpAny_standAt ?_)
    have lk := rv.length
    rcases turn i n ys σ3 H3 w3 with ⟨stop, sz, q⟩ | ⟨go, sz, N, hN, step⟩
    · refine wpAny_bind (thn (T.done (cxComp X Nc scope cl s2 H1 C fp) rfl rfl rfl hc i _ s3 σ3 H3 _ I3 (stat fr3) st3 stop) fun r s4 ⟨hr, I4⟩ => ?_)
      subst hr
      refine wpAny_pure ?_
      obtain ⟨m, ⟨oC, esC, epC, hoC, hdC, rC⟩, _⟩ := I4.loc
      have hoC : s4.heap.get? C = some oC := hoC
      have pD := I4.pin (D, seqObj "list" ks.toArray e) (List.mem_append_right _ List.mem_cons_self)
      have nC4 : H3 C = none := I4.free
      have yC := I1.young hCle
      have I5 : Inv X pins σ H3 s4 := I1.call' (ch := fp) I4.os (show Un (frs X.stack) fp H1 H3 s2.heap s4.heap from I4.base) I4.hok I4.bare fun b hb => ⟨(hfp b hb).2.2.2.1, (hfp b hb).2.1, (hfp b hb).2.2.2.2.1, (hfp b hb).2.2.2.2.2⟩
      have I6 := I5.track (p := D) (o := .lst ys) pD.2.1 (Heap.get?_none_of_le (Nat.le_trans I1.sz hDle)) yD.lo yD.ce yD.pi ⟨sz, ks, e, rv, pD.1⟩
      have nC6 : (upd H3 D (.lst ys)) C = none := by rw [upd_ne hDC.symm]; exact nC4
      have I7 : Inv X (pins ++ [(C, oC)]) σ (upd H3 D (.lst ys)) s4 := I6.pins_of fun p hp => by
        rcases List.mem_append.mp hp with hp | hp
        · exact I6.pin p (List.mem_append_right _ hp)
        · obtain rfl := List.mem_singleton.mp hp
          exact ⟨hoC, nC6, yC.lo, yC.fs, fun v z => by rw [hdC] at z; cases z⟩
      exact fin D C oC ys H3 s4 ⟨m, fun h' e' => ⟨oC, esC, epC, e', hdC, rC⟩⟩ pD.2.1 nC6 yC I7 q
    · refine wpAny_bind (thn (T.item (cxComp X Nc scope cl s2 H1 C fp) rfl rfl rfl hc i _ s3 σ3 H3 _ I3 (stat fr3) st3 go) fun r s4 ⟨u, hr, h4⟩ => ?_)
      subst hr
      refine wpAny_bind (thn h4 fun _ s5 ⟨x, H5, I5, r5, y5, st5, fr5⟩ => ?_)
      have I5' := I5.pinned (stat fr5) (T.obj _ _ st5)
      refine wpAny_bind (wpAny_mono (hg cl s2 H1 C fp _ s5 σ3 H5 x u _ I5' r5 (step x H5 y5)) (fun _ s6 ⟨σ6, H6, I6, q6⟩ => ?_) fun _ _ z => False.elim z)
      refine wpAny_bind (wpAny_mono (hifs cl s2 H1 C fp _ s6 σ6 H6 _ I6 q6) (fun ok s7 ⟨H7, I7, q7⟩ => ?_) fun _ _ z => False.elim z)
      have fin : ∀ {ks' : List Value} {e' : Nat} {ys' : List V} {σ8 : St} {H8 : Hp} {s8 : Shared}, Inv (cxComp X Nc scope cl s2 H1 C fp) ([(D, seqObj "list" ks'.toArray e')] ++ pinsAt fp s5.heap) σ8 H8 s8 → Vals ys' ks' → N ys' σ8 H8 →
          ∃ m, m < n ∧ ∃ i ys ks e σ' H', Inv (cxComp X Nc scope cl s2 H1 C fp) [(D, seqObj "list" ks.toArray e)] σ' H' s8 ∧ Vals ys ks ∧ tn i s8.heap ∧ (∀ b ∈ fp, H' b = none) ∧ W i m ys σ' H' := fun {ks' e' ys' σ8 H8 s8} I8 rv' n8 => by
        obtain ⟨m', hm, w8⟩ := hN _ σ8 H8 n8
        refine ⟨m', hm, i + 1, ys', ks', e', σ8, H8, I8.unpinned, rv', T.keep _ _ _ st5 fun b hb o eo => (I8.pin (b, o) (List.mem_append_right _ (List.mem_append_right _ (mem_pinsAt hb eo)))).1, fun b hb => ?_, w8⟩
        obtain ⟨o, eo, d⟩ := T.obj _ _ st5 b hb
        exact (I8.pin (b, o) (List.mem_append_right _ (List.mem_append_right _ (mem_pinsAt hb eo)))).2.1
      cases ok with
      | false =>
        have q7 := iteF_of q7
        exact wpAny_pure ⟨rfl, fin I7 rv q7⟩
      | true =>
        have q7 := iteT_of q7
        refine wpAny_bind (wpAny_bind (wpAny_mono (he cl s2 H1 C fp _ s7 σ6 H7 _ I7 q7) (fun y s8 ⟨vy, H8, I8, ry, n8⟩ => ?_) fun _ _ z => False.elim z))
        have pD := I8.pin (D, seqObj "list" ks.toArray e) (List.mem_append_right _ (List.mem_append_left _ List.mem_cons_self))
        refine wpAny_bind (wpAny_list_append_plain (hsz := by rw [List.size_toArray, ← lk]; exact sz) ⟨e, pD.1⟩ fun h9 hl9 hs9 => ?_)
        refine wpAny_pure (wpAny_pure ⟨rfl, ?_⟩)
        obtain ⟨e9, hl9⟩ := hl9
        have ea : ks.toArray.push y = (ks ++ [y]).toArray := by simp
        rw [ea] at hl9
        refine fin (ks' := ks ++ [y]) (e' := e9) (ys' := ys ++ [vy]) ?_ (Vals.append rv (.cons ry .nil)) n8
        have ne9 : ∀ p ∈ pinsAt fp s5.heap, p.1 ≠ D := fun p hp z => fpD (z ▸ (of_pinsAt hp).1)
        have yDb : Young (cxComp X Nc scope cl s2 H1 C fp) (pinsAt fp s5.heap) D := ⟨hDC, fun hm => absurd (frN _ hm) (Nat.not_lt.mpr hDle), .inr hDle, fun x c ec => yD.ce x c (clX x c ec), fun p hp => ne9 p (by simpa [cxComp] using hp)⟩
        have I8a : Inv (cxComp X Nc scope cl s2 H1 C fp) (pinsAt fp s5.heap) σ6 H8 s8 := I8.pins_of fun p hp => I8.pin p (List.mem_append_right _ (List.mem_append_right _ hp))
        have I8b := I8a.record yDb pD.2.1 hs9
        exact I8b.pins_of fun p hp => by
          rcases List.mem_append.mp hp with hp | hp
          · obtain rfl := List.mem_singleton.mp hp
            exact ⟨hl9, pD.2.1, yDb.lo, yDb.fs, fun v z => by cases z⟩
          · exact I8b.pin p (List.mem_append_right _ hp)
  exact codeAny_compStart_list (loop _) (T.self _ 0 _ _ _ (T.keep _ _ _ t0 fun b _ o e => old b o e) (loop _))
theorem compOk_all {X : Cx} {scope : Scope} {Nc : List Str} {ix : List (Option Nat)} (h : compOk scope X.env.scope X.N Nc ix = true) : (∀ y ∈ scope.names, y.2 ≠ .cell) ∧ scope.kind = .function ∧ (∀ y ∈ scope.names, y.2 = .local → scope.names.lookup y.1 = some .local) ∧
    (∀ y ∈ scope.names, y.2 = .free → X.env.kindOf y.1 = some .cell ∨ X.env.kindOf y.1 = some .free) ∧ ix.length = Nc.length ∧
    ∀ (i : Nat) (x : Str) (j : Nat), Nc[i]? = some x → ix[i]? = some (some j) → X.N[j]? = some x ∧ Vis X.env.scope x ∧ (X.env.kindOf x = some .local → False) ∧ ((relabel scope X.env).names.lookup x = some .cell ∨ (relabel scope X.env).names.lookup x = some .free) := by
  unfold compOk at h
  simp only [Bool.and_eq_true, beq_iff_eq, List.all_eq_true, Bool.or_eq_true, bne_iff_ne] at h
  obtain ⟨⟨⟨⟨⟨h1, h2⟩, h3⟩, h4⟩, h5⟩, h6⟩ := h
  refine ⟨h1, h2, fun y hy e => ?_, fun y hy e => ?_, h5, fun i x j e1 e2 => ?_⟩
  · rcases h3 y hy with z | z
    · exact absurd e z
    · exact z
  · rcases h4 y hy with (z | z) | z
    · exact absurd e z
    · exact .inl z
    · exact .inr z
  · have q := h6 i (List.mem_range.mpr (List.getElem?_eq_some_iff.mp e1).1)
    rw [e1, e2] at q
    simp only [Bool.and_eq_true, beq_iff_eq, Bool.or_eq_true] at q
    obtain ⟨⟨q1, q2⟩, q3⟩ := q
    refine ⟨q1, ?_, fun z => ?_, relabel_free q3⟩
    · rcases q2 with z | z
      · exact .inr (.inl z)
      · exact .inr (.inr z)
    · have z' : X.env.scope.names.lookup x = some .local := z
      rcases q2 with y | y
      · rw [y] at z'; cases z'
      · rw [y] at z'; cases z'
theorem pe_comp {X : Cx} {elt tg iter : Expr} {ifs : List Expr} {scope : Scope} {pos : Pos} {Nc : List Str} {ix : List (Option Nat)} {wi : TI} {g : TG} {tc : TT} {te : TE} (hc : X.calm = true) (hok : compOk scope X.env.scope X.N Nc ix = true)
    (hi : PI X tg iter wi) (hg : ∀ cl s H C fp, PG (cxComp X Nc scope cl s H C fp) tg g) (hifs : ∀ cl s H C fp, PTs (cxComp X Nc scope cl s H C fp) ifs tc) (he : ∀ cl s H C fp, PE (cxComp X Nc scope cl s H C fp) elt te)
    (hs : ∀ x, foldedSetIterable iter X.env x = pure x := by intro _; rfl) : PE X (.ListComp elt [⟨tg, iter, ifs, 0⟩] scope pos) (tComp wi ix g tc te) := by
  intro pins s σ H Q I h
  obtain ⟨h1, h2, h3, h4, h5, h6⟩ := compOk_all hok
  rw [eval_ListComp]
  refine comp_core (Q' := EP X pins σ Q) hc h1 h2 h3 h4 (fun y k e hk => relabel_of h1 e hk) h5 h6 hi hg hifs he hs I h fun D C oC ys H3 s4 hN nD nC yC I4 q => ?_
  have pC := I4.pin (C, oC) (List.mem_append_right _ (List.mem_append_right _ List.mem_cons_self))
  obtain ⟨m, hm⟩ := hN
  exact ⟨m, hm _ pC.1, fun h' hsb => ⟨.ref D, _, I4.unpinned.record yC nC hsb, rfl, q D nD⟩⟩
def sComp (i : Nat) (wi : TI) (ix : List (Option Nat)) (g : TG) (tc : TT) (te : TE) : TS := fun D σ H => tCompR wi ix g tc te σ H fun ys H' => ∀ l, H' l = none → D.nx (σ.set i (some (.ref l))) (upd H' l (.lst ys))
theorem ps_comp {X : Cx} {i : Nat} {y : Str} {elt tg iter : Expr} {ifs : List Expr} {scope : Scope} {pos spos py : Pos} {Nc : List Str} {ix : List (Option Nat)} {wi : TI} {g : TG} {tc : TT} {te : TE} (hN : X.N.Nodup) (hi' : X.N[i]? = some y) (hx : Loc X.env.scope y) (hc : X.calm = true) (hok : compOk scope X.env.scope X.N Nc ix = true)
    (hi : PI X tg iter wi) (hg : ∀ cl s H C fp, PG (cxComp X Nc scope cl s H C fp) tg g) (hifs : ∀ cl s H C fp, PTs (cxComp X Nc scope cl s H C fp) ifs tc) (he : ∀ cl s H C fp, PE (cxComp X Nc scope cl s H C fp) elt te)
    (hs : ∀ x, foldedSetIterable iter X.env x = pure x := by intro _; rfl) (hsw : swapsWith (.ListComp elt [⟨tg, iter, ifs, 0⟩] scope pos) (some (.Name y py)) spos.line X.env = pure true := by rfl)
    (hf : X.fn y = true ∨ X.env.scope.names.lookup y = some .local := by first | exact .inl rfl | exact .inr rfl | assumption) : PS X (.Assign [.Name y py] (.ListComp elt [⟨tg, iter, ifs, 0⟩] scope pos) spos) (sComp i wi ix g tc te) := by
  intro pins s σ H D I h
  obtain ⟨h1, h2, h3, h4, h5, h6⟩ := compOk_all hok
  rw [exec_Assign_Name_used _ _ _ _ hsw]
  refine wpAny_bind (wpAny_standAt (wpAny_bind ?_))
  show wpAny _ X.A (do let _ ← comprehension (.ListComp elt [⟨tg, iter, ifs, 0⟩] scope pos) scope X.env _ (newList []) false (eval iter X.env) (some (assign (.Name y py) X.env))) _ _ s
  refine wpAny_bind (wpAny_mono (comp_core (Q' := fun _ s' => SP X pins D .next s') hc h1 h2 h3 h4 (fun y k e hk => relabel_of h1 e hk) h5 h6 hi hg hifs he hs I h fun Da C oC ys H3 s4 hN' nD nC yC I4 q => ?_)
    (fun _ s' hq => wpAny_pure (wpAny_pure hq)) fun _ _ e => e)
  show wpAny _ _ (assign (.Name y py) X.env (.ref Da)) _ _ s4
  refine thn (pg_name (i := i) hN hi' hx hf _ s4 σ _ (.ref Da) (.ref Da) (fun σ' H' => σ' = σ.set i (some (.ref Da)) ∧ H' = upd H3 Da (.lst ys)) I4 rfl ⟨rfl, rfl⟩) fun _ s5 ⟨σ5, H5, I5, e1, e2⟩ => ?_
  subst e1 e2
  have pC := I5.pin (C, oC) (List.mem_append_right _ (List.mem_append_right _ List.mem_cons_self))
  obtain ⟨m, hm⟩ := hN'
  exact ⟨m, hm _ pC.1, fun h' hsb => ⟨_, _, I5.unpinned.record yC nC hsb, q Da nD⟩⟩
end L2
set_option Elab.async false
set_option linter.all false
set_option maxRecDepth 100000
namespace L2
open PySem PySem.Spec PyProof.Rows
section
variable {X : Cx}
theorem lst_walk {pins : List (Addr × Obj)} {σ : St} {H : Hp} {s : Shared} {a : Addr} {its : List Value} (I : Inv X pins σ H s) (tp : s.heap.IsList a its.toArray) (hc : X.calm = true) {Q : Value → Shared → Prop}
    (q : ∀ s2 : Shared, s2 = { s with heap := s.heap.push { cls := .type "list_iterator", data := .fields #[.ref a, .int 0 0] } } → Walks X.prog X.w X.A.in1 s.heap.objs.size [s.heap.objs.size, a] [s.heap.objs.size] its.toArray.size (fun i v => its.toArray[i]? = some v) (fun i h => h.IsListIter s.heap.objs.size a i ∧ h.IsList a its.toArray) →
      (s2.heap.IsListIter s.heap.objs.size a 0 ∧ s2.heap.IsList a its.toArray) → (∀ b ∈ [s.heap.objs.size, a], b < s2.heap.objs.size) → Q (.ref s.heap.objs.size) s2) : wpAny (model X.prog X.w) X.A.in1 (pyIter (.ref a)) Q X.xe s := by
  have hlt : a < s.heap.objs.size := by obtain ⟨_, e, _⟩ := tp; exact Heap.lt_size e
  refine wpAny_pyIter_list tp (q _ rfl (Walks.list (by exact I.ok.hd hc) _ _ (Nat.ne_of_lt hlt) _) ⟨⟨_, Heap.get?_push_size _ rfl, rfl, rfl⟩, ?_⟩ fun b hb => ?_)
  · obtain ⟨o, e, r⟩ := tp
    exact ⟨o, Heap.get?_push_of_some _ e, r⟩
  · show b < (s.heap.push _).objs.size
    rw [Heap.size_push]
    rcases List.mem_cons.mp hb with rfl | hb
    · exact Nat.lt_succ_self _
    · rw [List.mem_singleton.mp hb]
      exact Nat.lt_succ_of_lt hlt
theorem bools_of {bs : List Bool} {its : List Value} (r : Vals (bs.map V.bl) its) : ∀ (i : Nat) (v : Value), its.toArray[i]? = some v → v = Value.bool (bs.getD i false) := by
  intro i v e
  rw [List.getElem?_toArray] at e
  have hl := r.length
  have hi : i < its.length := (List.getElem?_eq_some_iff.mp e).1
  rw [List.length_map] at hl
  have hx : (bs.map V.bl)[i]? = some (.bl (bs.getD i false)) := by
    rw [List.getElem?_map, List.getElem?_eq_getElem (by omega)]
    simp [List.getD, show i < bs.length by omega]
  obtain ⟨u, hu, ru⟩ := r.get hx
  rw [e] at hu
  cases hu
  exact ru
theorem all_range (bs : List Bool) : (List.range bs.length).all (fun i => bs.getD i false) = bs.all id := by
  rw [Bool.eq_iff_iff, List.all_eq_true, List.all_eq_true]
  constructor
  · intro h b hb
    obtain ⟨i, hi, rfl⟩ := List.mem_iff_getElem.mp hb
    have := h i (List.mem_range.mpr hi)
    rwa [getD_at hi] at this
  · intro h i hi
    have hi := List.mem_range.mp hi
    rw [getD_at hi]
    exact h _ (List.getElem_mem hi)
theorem call_allL (hc : X.calm = true) : CallR X (.builtin "all") (fun xs H Q => ∃ (a : Addr) (bs : List Bool), xs = [.ref a] ∧ SqL X.K H a (bs.map V.bl) ∧ Q (.bl (bs.all id)) H) := by
  intro pins s σ H xs us Q I r h
  obtain ⟨a, bs, rfl, hq, q⟩ := h
  obtain ⟨u, rfl, ru⟩ := vals1 r
  cases ru
  obtain ⟨its, rv, tp, hz⟩ := I.list hq
  have hl := rv.length
  rw [List.length_map] at hl
  refine call_all_walk (lst_walk I tp.isList hc fun s2 e W st hfp => ?_)
  subst e
  refine ⟨_, _, _, _, _, _, fun i => bs.getD i false, rfl, W, st, fun i v A' Q' E' hP hQ => ?_, fun h' tk hk => ?_⟩
  · have := bools_of rv i v hP
    subst this
    exact wpAny_truthy_bool hQ
  · refine ⟨.bl _, H, I.kept (t' := tk) fun b o e => hk b o (fun m => ?_) (Heap.get?_push_of_some _ e), ?_, q⟩
    · have := Heap.lt_size e
      rw [List.mem_singleton.mp m] at this
      exact Nat.lt_irrefl _ this
    · show Value.bool _ = Value.bool _
      rw [List.size_toArray, ← hl, all_range]
end
end L2
set_option Elab.async false
set_option linter.all false
set_option maxRecDepth 100000
namespace L2
open PySem PySem.Spec PyProof.Rows
inductive EqR (K : PySem.W.Frag) (H : Hp) : Nat → V → V → Bool → Prop where
  | flat {n : Nat} {x y : V} (fx : flatV x = true) (fy : flatV y = true) : EqR K H n x y (eqV x y)
  | tups {n : Nat} {a b : Addr} {xs ys : List V} {e : Nat → Bool} (ha : SqT K H a xs) (hb : SqT K H b ys) (he : ∀ j, j < xs.length → j < ys.length → EqR K H n (xs.getD j .non) (ys.getD j .non) (e j)) :
      EqR K H (n + 1) (.ref a) (.ref b) ((List.range (min xs.length ys.length)).all e && xs.length == ys.length)
  | lsts {n : Nat} {a b : Addr} {xs ys : List V} {e : Nat → Bool} (ha : SqL K H a xs) (hb : SqL K H b ys) (hl : xs.length = ys.length) (he : ∀ j, j < xs.length → EqR K H n (xs.getD j .non) (ys.getD j .non) (e j)) :
      EqR K H (n + 1) (.ref a) (.ref b) ((List.range xs.length).all e)
  | lens {n : Nat} {a b : Addr} {xs ys : List V} (ha : SqL K H a xs) (hb : SqL K H b ys) (hl : xs.length ≠ ys.length) : EqR K H (n + 1) (.ref a) (.ref b) false
theorem eqV_refl : ∀ {x : V}, flatV x = true → eqV x x = true
  | .non, _ => rfl
  | .bl b, _ => beq_self_eq_true b
  | .int i, _ => beq_self_eq_true i
  | .str s, _ => beq_self_eq_true s
section
variable {X : Cx} {pins : List (Addr × Obj)} {σ : St} {H : Hp} {s : Shared}
theorem EqR.refl (I : Inv X pins σ H s) {n : Nat} {x y : V} {b : Bool} (h : EqR X.K H n x y b) : x = y → b = true := by
  induction h with
  | flat fx fy => intro e; subst e; exact eqV_refl fx
  | @tups n a b xs ys e ha hb he ih =>
    intro z
    cases z
    have := I.tuple_inj ha hb
    subst this
    rw [beq_self_eq_true, Bool.and_true, List.all_eq_true]
    intro j hj
    have hj := List.mem_range.mp hj
    exact ih j (by omega) (by omega) rfl
  | @lsts n a b xs ys e ha hb hl he ih =>
    intro z
    cases z
    have := I.list_inj ha hb
    subst this
    rw [List.all_eq_true]
    intro j hj
    exact ih j (List.mem_range.mp hj) rfl
  | @lens n a b xs ys ha hb hl =>
    intro z
    cases z
    exact absurd (by rw [I.list_inj ha hb]) hl
theorem EqR.at (I : Inv X pins σ H s) {n : Nat} {x y : V} {b : Bool} (h : EqR X.K H n x y b) : ∀ {A : Around} {u v : Value}, RelV x u → RelV y v → A.units + n < cLine → SeqAt.EqAt A s u v b := by
  induction h with
  | flat fx fy => intro A u v ru rv _; exact eqAt_V ru rv fx fy
  | @tups n a b xs ys e ha hb he ih =>
    intro A u v ru rv hu
    cases ru
    cases rv
    by_cases hab : a = b
    · have := EqR.refl I (EqR.tups (n := n) ha hb he) (by rw [hab])
      rw [this, hab]
      exact SeqAt.EqAt.same _
    · obtain ⟨i1, r1, p1, z1⟩ := I.tuple ha
      obtain ⟨i2, r2, p2, z2⟩ := I.tuple hb
      have l1 := r1.length
      have l2 := r2.length
      have := SeqAt.RcAt.tuples (A := A) (e := e) (show s.heap.IsTuple a i1.toArray from p1) (show s.heap.IsTuple b i2.toArray from p2) (by omega) fun j h1 h2 => by
        have h1' : j < i1.length := by simpa using h1
        have h2' : j < i2.length := by simpa using h2
        have q := ih j (by omega) (by omega) (A := A.in1) (val_at r1 h1') (val_at r2 h2') (by show A.units + 1 + n < cLine; omega)
        simpa using q
      rw [List.size_toArray, List.size_toArray, ← l1, ← l2] at this
      exact SeqAt.EqAt.of_refs hab this
  | @lsts n a b xs ys e ha hb hl he ih =>
    intro A u v ru rv hu
    cases ru
    cases rv
    by_cases hab : a = b
    · have := EqR.refl I (EqR.lsts (n := n) ha hb hl he) (by rw [hab])
      rw [this, hab]
      exact SeqAt.EqAt.same _
    · obtain ⟨i1, r1, p1, z1⟩ := I.list ha
      obtain ⟨i2, r2, p2, z2⟩ := I.list hb
      have l1 := r1.length
      have l2 := r2.length
      have := SeqAt.RcAt.lists (A := A) (e := e) p1.isList p2.isList (by simp; omega) (by omega) fun j h1 h2 => by
        have h1' : j < i1.length := by simpa using h1
        have h2' : j < i2.length := by simpa using h2
        have q := ih j (by omega) (A := A.in1) (val_at r1 h1') (val_at r2 h2') (by show A.units + 1 + n < cLine; omega)
        simpa using q
      rw [List.size_toArray, ← l1] at this
      exact SeqAt.EqAt.of_refs hab this
  | @lens n a b xs ys ha hb hl =>
    intro A u v ru rv hu
    cases ru
    cases rv
    obtain ⟨i1, r1, p1, z1⟩ := I.list ha
    obtain ⟨i2, r2, p2, z2⟩ := I.list hb
    have l1 := r1.length
    have l2 := r2.length
    have hab : a ≠ b := fun z => by subst z; exact hl (by rw [I.list_inj ha hb])
    exact SeqAt.EqAt.of_refs hab (SeqAt.RcAt.lists_lengths p1.isList p2.isList (by simp; omega) (by omega))
def rEqR (K : PySem.W.Frag) (neg : Bool) : R2 := fun x y H Q => ∃ (a c : Addr) (n : Nat) (b : Bool), x = .ref a ∧ y = .ref c ∧ EqR K H n x y b ∧ n ≤ 50 ∧ Q (.bl (if neg then !b else b)) H
theorem op_eqR (hu : X.A.units + 64 < cLine) : OpR X (compareOp .Eq) (rEqR X.K false) := by
  intro pins s σ H x y v u Q I rx ry h
  obtain ⟨a, c, n, b, rfl, rfl, e, hn, q⟩ := h
  cases rx
  cases ry
  have fin : ∀ {k : Bool}, k = b → EP X pins σ Q (.bool k) s := fun z => ⟨.bl b, H, I, by rw [z]; rfl, q⟩
  cases e with
  | flat fx fy => exact absurd (show false = true from fx) Bool.false_ne_true
  | @tups n _ _ xs ys e ha hb he =>
    obtain ⟨i1, r1, p1, z1⟩ := I.tuple ha
    obtain ⟨i2, r2, p2, z2⟩ := I.tuple hb
    have l1 := r1.length
    have l2 := r2.length
    refine SeqAt.eq_tupleAt (e := e) (show s.heap.IsTuple a i1.toArray from p1) (show s.heap.IsTuple c i2.toArray from p2) (by omega) (fun j h1 h2 => ?_) (fin ?_)
    · have h1' : j < i1.length := by simpa using h1
      have h2' : j < i2.length := by simpa using h2
      have q := (he j (by omega) (by omega)).at I (A := X.A.in1) (val_at r1 h1') (val_at r2 h2') (by show X.A.units + 1 + n < cLine; omega)
      simpa using q
    · rw [List.size_toArray, List.size_toArray, ← l1, ← l2]
  | @lsts n _ _ xs ys e ha hb hl he =>
    obtain ⟨i1, r1, p1, z1⟩ := I.list ha
    obtain ⟨i2, r2, p2, z2⟩ := I.list hb
    have l1 := r1.length
    have l2 := r2.length
    refine SeqAt.eq_listAt (e := e) p1.isList p2.isList (by simp; omega) (by omega) (fun j h1 h2 => ?_) (fin ?_)
    · have h1' : j < i1.length := by simpa using h1
      have h2' : j < i2.length := by simpa using h2
      have q := (he j (by omega)).at I (A := X.A.in1) (val_at r1 h1') (val_at r2 h2') (by show X.A.units + 1 + n < cLine; omega)
      simpa using q
    · rw [List.size_toArray, ← l1]
  | @lens n _ _ xs ys ha hb hl =>
    obtain ⟨i1, r1, p1, z1⟩ := I.list ha
    obtain ⟨i2, r2, p2, z2⟩ := I.list hb
    have l1 := r1.length
    have l2 := r2.length
    exact SeqAt.eq_list_lengthsAt p1.isList p2.isList (by simp; omega) (by omega) (fin rfl)
theorem op_neR (hu : X.A.units + 64 < cLine) : OpR X (compareOp .NotEq) (rEqR X.K true) := by
  intro pins s σ H x y v u Q I rx ry h
  obtain ⟨a, c, n, b, rfl, rfl, e, hn, q⟩ := h
  cases rx
  cases ry
  have fin : ∀ {k : Bool}, k = b → EP X pins σ Q (.bool (!k)) s := fun z => ⟨.bl (!b), H, I, by rw [z]; rfl, q⟩
  cases e with
  | flat fx fy => exact absurd (show false = true from fx) Bool.false_ne_true
  | @tups n _ _ xs ys e ha hb he =>
    obtain ⟨i1, r1, p1, z1⟩ := I.tuple ha
    obtain ⟨i2, r2, p2, z2⟩ := I.tuple hb
    have l1 := r1.length
    have l2 := r2.length
    refine SeqAt.RcNeAt.tuples (e := e) (show s.heap.IsTuple a i1.toArray from p1) (show s.heap.IsTuple c i2.toArray from p2) (by omega) (fun j h1 h2 => ?_) _ _ _ _ (fin ?_)
    · have h1' : j < i1.length := by simpa using h1
      have h2' : j < i2.length := by simpa using h2
      have q := (he j (by omega) (by omega)).at I (A := X.A.in1) (val_at r1 h1') (val_at r2 h2') (by show X.A.units + 1 + n < cLine; omega)
      simpa using q
    · rw [List.size_toArray, List.size_toArray, ← l1, ← l2]
  | @lsts n _ _ xs ys e ha hb hl he =>
    obtain ⟨i1, r1, p1, z1⟩ := I.list ha
    obtain ⟨i2, r2, p2, z2⟩ := I.list hb
    have l1 := r1.length
    have l2 := r2.length
    refine SeqAt.RcNeAt.lists (e := e) p1.isList p2.isList (by simp; omega) (by omega) (fun j h1 h2 => ?_) _ _ _ _ (fin ?_)
    · have h1' : j < i1.length := by simpa using h1
      have h2' : j < i2.length := by simpa using h2
      have q := (he j (by omega)).at I (A := X.A.in1) (val_at r1 h1') (val_at r2 h2') (by show X.A.units + 1 + n < cLine; omega)
      simpa using q
    · rw [List.size_toArray, ← l1]
  | @lens n _ _ xs ys ha hb hl =>
    obtain ⟨i1, r1, p1, z1⟩ := I.list ha
    obtain ⟨i2, r2, p2, z2⟩ := I.list hb
    have l1 := r1.length
    have l2 := r2.length
    exact SeqAt.RcNeAt.lists_lengths p1.isList p2.isList (by simp; omega) (by omega) _ _ _ _ (fin (k := false) rfl)
end
end L2
set_option Elab.async false
set_option linter.all false
set_option maxRecDepth 100000
namespace L2
open PySem PySem.Spec PyProof.Rows PySem.W
end L2
set_option Elab.async false
set_option linter.all false
set_option maxRecDepth 100000
namespace L2
open PySem PySem.Spec PyProof.Rows
section
variable {g : TG} {tc : TT} {te : TE} {σ0 : St} {H0 : Hp} {R : List V → Hp → Prop} {K : PySem.W.Frag} {a : Addr} {xs : List V}
theorem cmp_gen {J : It} {n : Nat} (Pv : Nat → List V → St → Hp → Prop) (h0 : Pv 0 [] σ0 H0) (hz : ∀ i ys σ H, i ≤ n → Pv i ys σ H → ys.length ≤ sizeLine) (hst : ∀ ys σ H, Pv n ys σ H → J.stop n H ∧ R ys H)
    (hgo : ∀ i ys σ H, i < n → Pv i ys σ H → J.go i H ∧ ∀ x H2, J.yld i H x H2 → g x σ H2 fun σ2 H3 => tc σ2 H3 fun b H4 => if b = true then te σ2 H4 fun y H5 => Pv (i + 1) (ys ++ [y]) σ2 H5 else Pv (i + 1) ys σ2 H4) :
    ∃ W : Nat → Nat → List V → St → Hp → Prop, (∃ m, W 0 m [] σ0 H0) ∧ ∀ i m ys σ' H', W i m ys σ' H' →
      (J.stop i H' ∧ ys.length ≤ sizeLine ∧ R ys H') ∨
      (J.go i H' ∧ ys.length ≤ sizeLine ∧ ∃ N : List V → St → Hp → Prop, (∀ ys' σ2 H2, N ys' σ2 H2 → ∃ m', m' < m ∧ W (i + 1) m' ys' σ2 H2) ∧
        ∀ x H2, J.yld i H' x H2 → g x σ' H2 fun σ2 H3 => tc σ2 H3 fun b H4 => if b = true then te σ2 H4 fun y H5 => N (ys ++ [y]) σ2 H5 else N ys σ2 H4) := by
  refine ⟨fun i m ys σ H => m = n - i ∧ i ≤ n ∧ Pv i ys σ H, ⟨n, by simp, Nat.zero_le _, h0⟩, ?_⟩
  rintro i m ys σ H ⟨rfl, hi, p⟩
  by_cases hlt : i < n
  · obtain ⟨go, turn⟩ := hgo i ys σ H hlt p
    exact .inr ⟨go, hz i ys σ H hi p, Pv (i + 1), fun ys' σ' H' p' => ⟨n - (i + 1), by omega, rfl, hlt, p'⟩, turn⟩
  · have e : i = n := by omega
    subst e
    obtain ⟨st, r⟩ := hst ys σ H p
    exact .inl ⟨st, hz i ys σ H hi p, r⟩
theorem cmp_list (Pv : Nat → List V → St → Hp → Prop) (h0 : Pv 0 [] σ0 H0) (hz : ∀ i ys σ H, i ≤ xs.length → Pv i ys σ H → ys.length ≤ sizeLine ∧ SqL K H a xs) (hst : ∀ ys σ H, Pv xs.length ys σ H → R ys H)
    (hgo : ∀ i x ys σ H, xs[i]? = some x → Pv i ys σ H → g x σ H fun σ2 H3 => tc σ2 H3 fun b H4 => if b = true then te σ2 H4 fun y H5 => Pv (i + 1) (ys ++ [y]) σ2 H5 else Pv (i + 1) ys σ2 H4) :
    ∃ W : Nat → Nat → List V → St → Hp → Prop, (∃ m, W 0 m [] σ0 H0) ∧ ∀ i m ys σ' H', W i m ys σ' H' →
      ((Itl K a).stop i H' ∧ ys.length ≤ sizeLine ∧ R ys H') ∨
      ((Itl K a).go i H' ∧ ys.length ≤ sizeLine ∧ ∃ N : List V → St → Hp → Prop, (∀ ys' σ2 H2, N ys' σ2 H2 → ∃ m', m' < m ∧ W (i + 1) m' ys' σ2 H2) ∧
        ∀ x H2, (Itl K a).yld i H' x H2 → g x σ' H2 fun σ2 H3 => tc σ2 H3 fun b H4 => if b = true then te σ2 H4 fun y H5 => N (ys ++ [y]) σ2 H5 else N ys σ2 H4) :=
  cmp_gen (n := xs.length) Pv h0 (fun i ys σ H hi p => (hz i ys σ H hi p).1) (fun ys σ H p => ⟨⟨xs, (hz _ ys σ H (Nat.le_refl _) p).2, Nat.le_refl _⟩, hst ys σ H p⟩)
    fun i ys σ H hi p => ⟨⟨xs, xs[i], (hz i ys σ H (Nat.le_of_lt hi) p).2, by simp [hi]⟩, fun x H2 y => by
      obtain ⟨e, y⟩ := y
      subst e
      exact hgo i x ys σ _ (y xs (hz i ys σ _ (Nat.le_of_lt hi) p).2) p⟩
theorem cmp_tup (Pv : Nat → List V → St → Hp → Prop) (h0 : Pv 0 [] σ0 H0) (hz : ∀ i ys σ H, i ≤ xs.length → Pv i ys σ H → ys.length ≤ sizeLine ∧ SqT K H a xs) (hst : ∀ ys σ H, Pv xs.length ys σ H → R ys H)
    (hgo : ∀ i x ys σ H, xs[i]? = some x → Pv i ys σ H → g x σ H fun σ2 H3 => tc σ2 H3 fun b H4 => if b = true then te σ2 H4 fun y H5 => Pv (i + 1) (ys ++ [y]) σ2 H5 else Pv (i + 1) ys σ2 H4) :
    ∃ W : Nat → Nat → List V → St → Hp → Prop, (∃ m, W 0 m [] σ0 H0) ∧ ∀ i m ys σ' H', W i m ys σ' H' →
      ((Itt K a).stop i H' ∧ ys.length ≤ sizeLine ∧ R ys H') ∨
      ((Itt K a).go i H' ∧ ys.length ≤ sizeLine ∧ ∃ N : List V → St → Hp → Prop, (∀ ys' σ2 H2, N ys' σ2 H2 → ∃ m', m' < m ∧ W (i + 1) m' ys' σ2 H2) ∧
        ∀ x H2, (Itt K a).yld i H' x H2 → g x σ' H2 fun σ2 H3 => tc σ2 H3 fun b H4 => if b = true then te σ2 H4 fun y H5 => N (ys ++ [y]) σ2 H5 else N ys σ2 H4) :=
  cmp_gen (n := xs.length) Pv h0 (fun i ys σ H hi p => (hz i ys σ H hi p).1) (fun ys σ H p => ⟨⟨xs, (hz _ ys σ H (Nat.le_refl _) p).2, Nat.le_refl _⟩, hst ys σ H p⟩)
    fun i ys σ H hi p => ⟨⟨xs, xs[i], (hz i ys σ H (Nat.le_of_lt hi) p).2, by simp [hi]⟩, fun x H2 y => by
      obtain ⟨e, y⟩ := y
      subst e
      exact hgo i x ys σ _ (y xs (hz i ys σ _ (Nat.le_of_lt hi) p).2) p⟩
theorem cmp_range {lo : Int} {n : Nat} (Pv : Nat → List V → St → Hp → Prop) (h0 : Pv 0 [] σ0 H0) (hz : ∀ i ys σ H, i ≤ n → Pv i ys σ H → ys.length ≤ sizeLine) (hst : ∀ ys σ H, Pv n ys σ H → R ys H)
    (hgo : ∀ i ys σ H, i < n → Pv i ys σ H → g (.int (lo + i)) σ H fun σ2 H3 => tc σ2 H3 fun b H4 => if b = true then te σ2 H4 fun y H5 => Pv (i + 1) (ys ++ [y]) σ2 H5 else Pv (i + 1) ys σ2 H4) :
    ∃ W : Nat → Nat → List V → St → Hp → Prop, (∃ m, W 0 m [] σ0 H0) ∧ ∀ i m ys σ' H', W i m ys σ' H' →
      ((Itr lo n).stop i H' ∧ ys.length ≤ sizeLine ∧ R ys H') ∨
      ((Itr lo n).go i H' ∧ ys.length ≤ sizeLine ∧ ∃ N : List V → St → Hp → Prop, (∀ ys' σ2 H2, N ys' σ2 H2 → ∃ m', m' < m ∧ W (i + 1) m' ys' σ2 H2) ∧
        ∀ x H2, (Itr lo n).yld i H' x H2 → g x σ' H2 fun σ2 H3 => tc σ2 H3 fun b H4 => if b = true then te σ2 H4 fun y H5 => N (ys ++ [y]) σ2 H5 else N ys σ2 H4) :=
  cmp_gen (n := n) Pv h0 hz (fun ys σ H p => ⟨Nat.le_refl _, hst ys σ H p⟩) fun i ys σ H hi p => ⟨hi, fun x H2 y => by
    obtain ⟨e, y⟩ := y
    subst e y
    exact hgo i ys σ _ hi p⟩
end
end L2
set_option Elab.async false
set_option linter.all false
set_option maxRecDepth 100000
namespace L2
open PySem PySem.Spec PyProof.Rows PySem.W
section
variable {X : Cx} {pins : List (Addr × Obj)} {σ : St} {H : Hp} {s : Shared}
end
end L2
set_option Elab.async false
set_option linter.all false
set_option maxRecDepth 100000
namespace L2
open PySem PySem.Spec PyProof.Rows PySem.W
def txt (l : List Nat) : Str := ⟨l.toArray⟩
theorem txt_len (l : List Nat) : (txt l).length = l.length := by simp [txt, Str.length]
theorem txt_inj {a b : List Nat} (h : txt a = txt b) : a = b := by
  have : (txt a).cps.toList = (txt b).cps.toList := by rw [h]
  simpa [txt] using this
section
variable {X : Cx}
theorem strs_vals : ∀ {zs : List Str} {us : List Value}, Vals (zs.map V.str) us → StrsAre us zs
  | [], _, .nil => .nil
  | z :: zs, _, .cons ⟨t, e⟩ r => by
    subst e
    exact .cons z t (strs_vals r)
def rIxC : R2 := fun x y H Q => ∃ (l : List Nat) (i : Int) (c : Nat), x = .str (txt l) ∧ y = .int i ∧ l.length ≤ 1000000 ∧ atI l i = some c ∧ Q (.str (txt [c])) H
theorem ix_sign : IxR X rIxC := by
  intro value slice pins s σ H x y v u Q I rx ry h hs
  obtain ⟨l, i, c, rfl, rfl, hl, hc, q⟩ := h
  exact ix_str value slice pins s σ H _ _ v u Q I rx ry ⟨txt l, i, c, rfl, rfl, by rw [txt_len]; exact Nat.le_trans hl (by decide), by simpa [txt] using hc, q⟩ hs
end
end L2
set_option Elab.async false
set_option linter.all false
set_option maxRecDepth 100000
namespace L2
open PySem PySem.Spec PyProof.Rows PySem.W
section
variable {X : Cx} {K : Frag}
theorem call_lenK (hK : X.K = K) : CallR X (.builtin "len") (fun xs H Q => ∃ p ys, xs = [.ref p] ∧ (SqL K H p ys ∨ SqT K H p ys) ∧ Q (.int ys.length) H) := by subst hK; exact call_len_seq
end
end L2
set_option Elab.async false
set_option linter.all false
namespace Lin
abbrev W := List Nat
def glue : List W → W
  | [] => []
  | [a] => a
  | a :: b :: r => a ++ 32 :: glue (b :: r)
theorem glue_snoc : ∀ (ws : List W) (w : W), ws ≠ [] → glue (ws ++ [w]) = glue ws ++ 32 :: w
  | [], _, h => absurd rfl h
  | [a], w, _ => rfl
  | a :: b :: r, w, _ => by
    have ih : glue (b :: (r ++ [w])) = glue (b :: r) ++ 32 :: w := glue_snoc (b :: r) w (by simp)
    show a ++ 32 :: glue (b :: (r ++ [w])) = (a ++ 32 :: glue (b :: r)) ++ 32 :: w
    rw [ih]
    simp
theorem snoc_ind {P : List W → Prop} (h0 : P []) (h1 : ∀ ws w, P ws → P (ws ++ [w])) : ∀ (n : Nat) (ws : List W), ws.length = n → P ws
  | 0, ws, h => by rw [List.length_eq_zero_iff.mp h]; exact h0
  | n + 1, ws, h => by
    have hn : ws ≠ [] := fun z => by rw [z] at h; cases h
    rw [← List.dropLast_concat_getLast hn]
    exact h1 _ _ (snoc_ind h0 h1 n _ (by rw [List.length_dropLast, h]; rfl))
def put (wide : Int) (rows : List W) (w : W) : List W :=
  match rows.getLast? with
  | some r => if (r.length : Int) + 1 + w.length ≤ wide then rows.dropLast ++ [r ++ 32 :: w] else rows ++ [w]
  | none => [w]
def taken (wide : Int) (ws : List W) : List W := ws.foldl (put wide) []
theorem taken_snoc (wide : Int) (ws : List W) (w : W) : taken wide (ws ++ [w]) = put wide (taken wide ws) w := by
  unfold taken
  rw [List.foldl_append]
  rfl
theorem last_split {rows : List W} {r : W} (h : rows.getLast? = some r) : rows = rows.dropLast ++ [r] := by
  have hn : rows ≠ [] := fun z => by rw [z] at h; cases h
  rw [List.getLast?_eq_some_getLast hn] at h
  rw [← Option.some.inj h]
  exact (List.dropLast_concat_getLast hn).symm
theorem put_le {wide : Int} {rows : List W} {w : W} (h : ∀ r ∈ rows, (r.length : Int) ≤ wide) (hw : (w.length : Int) ≤ wide) : ∀ r ∈ put wide rows w, (r.length : Int) ≤ wide := by
  intro r hr
  unfold put at hr
  split at hr
  · rename_i q e
    split at hr
    · rename_i c
      rcases List.mem_append.mp hr with m | m
      · exact h r (List.dropLast_subset _ m)
      · rw [List.mem_singleton.mp m, List.length_append, List.length_cons]
        omega
    · rcases List.mem_append.mp hr with m | m
      · exact h r m
      · rw [List.mem_singleton.mp m]
        exact hw
  · rw [List.mem_singleton.mp hr]
    exact hw
theorem taken_le {wide : Int} (ws : List W) : (∀ w ∈ ws, (w.length : Int) ≤ wide) → ∀ r ∈ taken wide ws, (r.length : Int) ≤ wide :=
  snoc_ind (P := fun ws => (∀ w ∈ ws, (w.length : Int) ≤ wide) → ∀ r ∈ taken wide ws, (r.length : Int) ≤ wide) (fun _ r hr => (List.not_mem_nil hr).elim)
    (fun ws w ih h => by
      rw [taken_snoc]
      exact put_le (ih fun v hv => h v (List.mem_append_left _ hv)) (h w (by simp))) _ ws rfl
theorem put_len_le (wide : Int) (rows : List W) (w : W) : (put wide rows w).length ≤ rows.length + 1 := by
  unfold put
  split
  · rename_i r e
    split
    · have := last_split e
      have e2 : rows.length = rows.dropLast.length + 1 := by
        conv => lhs; rw [this, List.length_append]
        rfl
      rw [List.length_append, List.length_singleton]
      omega
    · simp
  · simp
theorem taken_len_le (wide : Int) (ws : List W) : (taken wide ws).length ≤ ws.length :=
  snoc_ind (P := fun ws => (taken wide ws).length ≤ ws.length) (Nat.le_refl _) (fun ws w ih => by
    rw [taken_snoc, List.length_append, List.length_singleton]
    exact Nat.le_trans (put_len_le _ _ _) (Nat.succ_le_succ ih)) _ ws rfl
def pos (ws : List W) (k : Nat) : Int := ((ws.take k).map (fun w => (w.length : Int) + 1)).sum
theorem pos_succ {ws : List W} {k : Nat} {w : W} (h : ws[k]? = some w) : pos ws (k + 1) = pos ws k + w.length + 1 := by
  obtain ⟨hk, e⟩ := List.getElem?_eq_some_iff.mp h
  unfold pos
  rw [← List.take_append_getElem hk, List.map_append, List.sum_append, e]
  show _ + (((w.length : Int) + 1) + 0) = _
  omega
theorem pos_step (ws : List W) (k : Nat) : pos ws k ≤ pos ws (k + 1) := by
  by_cases h : k < ws.length
  · rw [pos_succ (List.getElem?_eq_getElem h)]
    omega
  · unfold pos
    rw [List.take_of_length_le (by omega), List.take_of_length_le (by omega)]
    exact Int.le_refl _
theorem pos_mono (ws : List W) {i : Nat} : ∀ {j : Nat}, i ≤ j → pos ws i ≤ pos ws j
  | 0, h => by rw [Nat.le_zero.mp h]; exact Int.le_refl _
  | j + 1, h => by
    rcases Nat.lt_or_ge i (j + 1) with z | z
    · exact Int.le_trans (pos_mono ws (Nat.le_of_lt_succ z)) (pos_step ws j)
    · rw [Nat.le_antisymm h z]
      exact Int.le_refl _
section
variable {ws : List W} {wide : Int}
end
end Lin
set_option Elab.async false
set_option linter.all false
set_option maxRecDepth 100000
namespace L2
open PySem PySem.Spec PyProof.Rows PySem.W
theorem txt_app (a b : List Nat) : txt a ++ txt b = txt (a ++ b) := by
  refine Str.ext' ?_
  rw [Str.cps_append]
  simp [txt]
def Its (l : List Nat) : It := ⟨fun i _ => i < l.length, fun i H x H' => H' = H ∧ ∃ c, l[i]? = some c ∧ x = .str (txt [c]), fun i _ => l.length ≤ i⟩
theorem turn_ascii {P : Program} {w : World} {K : PySem.W.Frag} {tg : Expr} (it : Addr) (l : List Nat) (t : Tok) : Turn P w K tg (Its l) [it] it (fun i h => h.IsStrIter it "str_ascii_iterator" (txt l) t i) where
  mem := by simp
  obj := fun i h st b hb => by
    have e : b = it := by simpa using hb
    subst e
    obtain ⟨o, e, c, d⟩ := st
    exact ⟨o, e, fun v z => by rw [d] at z; cases z⟩
  keep := fun i h h' st k => let ⟨o, ho, r⟩ := st; ⟨o, k it (by simp) o ho, r⟩
  item := by
    intro X hP hw hK hc i pins s σ H E I hf st hg
    subst hP hw hK
    obtain ⟨f0, f1, f2, f3, f4, f5⟩ := hf it (by simp)
    have hg : i < l.length := hg
    refine wpAny_pyNext_ascii_item st (c := l[i]) (by simp [txt, hg]) fun h' st' sb => ?_
    have I1 : Inv X pins σ H { s with heap := h', toks := s.toks + 1 } := I.turned (t' := s.toks + 1) (fun b o hb e => (sb.2 b hb).trans e) f0 f1 f3 f4 f5
    obtain ⟨o, e, c, d⟩ := id st'
    exact ⟨_, rfl, go_of (s := { s with heap := h', toks := s.toks + 1 }) e c d (by decide) ⟨.str (txt [l[i]]), H, I1, ⟨_, rfl⟩, ⟨rfl, l[i], List.getElem?_eq_getElem hg, rfl⟩, st', fun b hb => (hf b hb).1⟩⟩
  done := by
    intro X hP hw hK hc i pins s σ H E I hf st hg
    subst hP hw hK
    obtain ⟨f0, f1, f2, f3, f4, f5⟩ := hf it (by simp)
    have hg : l.length ≤ i := hg
    exact wpAny_pyNext_ascii_end (I.ok.hd hc) st (by simp [txt, hg]) fun h' eb => ⟨rfl, I.turned (t' := s.toks) (fun b o hb e => eb b o hb e) f0 f1 f3 f4 f5⟩
  self := fun _ _ _ _ _ st h => wpAny_pyIter_striter_ascii st h
section
variable {X : Cx} {tg : Expr}
def iTxt (tl : TE) : TI := fun σ H R => tl σ H fun x H1 => ∃ l : List Nat, x = .str (txt l) ∧ (∀ c ∈ l, c < 128) ∧ R (Its l) H1
theorem pi_txt {l : Expr} {tl : TE} (hl : PE X l tl) : PI X tg l (iTxt tl) := by
  intro pins s σ H R I h
  refine thn (hl pins s σ H _ I h) fun v s1 ⟨x, H1, I1, r1, q1⟩ => ?_
  obtain ⟨l, e, ha, q⟩ := q1
  subst e
  obtain ⟨t, rfl⟩ := r1
  refine wpAny_pyIter_ascii (by simpa [txt] using ha) ?_
  refine ⟨s1.heap.objs.size, [s1.heap.objs.size], _, _, H1, rfl, I1.kept (t' := s1.toks) fun b o e => Heap.get?_push_of_some _ e, turn_ascii _ l t, ⟨_, Heap.get?_push_size _ rfl, rfl, rfl⟩, fun b hb => ?_, q⟩
  have e : b = s1.heap.objs.size := by simpa using hb
  subst e
  exact I1.fpOk (Nat.le_refl _) (I1.hok.fresh (Nat.le_refl _))
theorem op_le_str : OpR X (compareOp .LtE) (fun x y H Q => ∃ i j, x = .str i ∧ y = .str j ∧ Q (.bl (!decide (j.cps.toList < i.cps.toList))) H) := by
  intro pins s σ H x y v u Q I rx ry h
  obtain ⟨i, j, rfl, rfl, q⟩ := h
  obtain ⟨t, rfl⟩ := rx
  obtain ⟨t', rfl⟩ := ry
  exact PySem.P.le_str (fin_bl I q rfl)
theorem join_glue : ∀ (ls : List (List Nat)), Str.join (txt [32]) (ls.map txt) = txt (Lin.glue ls)
  | [] => rfl
  | [a] => rfl
  | a :: b :: r => by
    have ih := join_glue (b :: r)
    show txt a ++ txt [32] ++ Str.join (txt [32]) ((b :: r).map txt) = _
    rw [ih, txt_app, txt_app]
    simp [Lin.glue]
theorem mt_joinB : MtR X "str.join" (fun x vs H Q => ∃ (a : Addr) (ls : List (List Nat)), x = .str " " ∧ vs = [.ref a] ∧ SqL X.K H a (ls.map fun l => V.str (txt l)) ∧ (ls.map List.length).sum + ls.length ≤ 1000000 ∧ Q (.str (txt (Lin.glue ls))) H) := by
  intro pins s σ H x xs v us Q I rx rxs h
  obtain ⟨a, ls, rfl, rfl, hq, hn, q⟩ := h
  obtain ⟨t, rfl⟩ := rx
  obtain ⟨u, rfl, ru⟩ := vals1 rxs
  cases ru
  obtain ⟨its, rv, tp, hz⟩ := I.list hq
  have rv' : Vals ((ls.map txt).map V.str) its := by rw [List.map_map]; exact rv
  refine join_list (ys := ls.map txt) tp.isList (by simpa using strs_vals rv') ?_ fun t' k => ⟨.str _, H, I.tok k, ⟨t', ?_⟩, q⟩
  · rw [List.map_map]
    have e1 : (ls.map ((fun x => x.length) ∘ txt)) = ls.map List.length := List.map_congr_left fun l _ => txt_len l
    rw [e1]
    have e2 : (" " : Str).length = 1 := rfl
    rw [e2, List.length_map]
    omega
  · show Value.str (Txt.join " " (ls.map txt)) t' = _
    have e : Txt.join " " (ls.map txt) = txt (Lin.glue ls) := by
      unfold Txt.join
      rw [StrLaws.glued_eq_join]
      exact join_glue ls
    rw [e]
end
section
variable {g : TG} {tc : TT} {te : TE} {σ0 : St} {H0 : Hp} {R : List V → Hp → Prop} {l : List Nat}
theorem cmp_txt (Pv : Nat → List V → St → Hp → Prop) (h0 : Pv 0 [] σ0 H0) (hz : ∀ i ys σ H, i ≤ l.length → Pv i ys σ H → ys.length ≤ sizeLine) (hst : ∀ ys σ H, Pv l.length ys σ H → R ys H)
    (hgo : ∀ i c ys σ H, l[i]? = some c → Pv i ys σ H → g (.str (txt [c])) σ H fun σ2 H3 => tc σ2 H3 fun b H4 => if b = true then te σ2 H4 fun y H5 => Pv (i + 1) (ys ++ [y]) σ2 H5 else Pv (i + 1) ys σ2 H4) :
    ∃ W : Nat → Nat → List V → St → Hp → Prop, (∃ m, W 0 m [] σ0 H0) ∧ ∀ i m ys σ' H', W i m ys σ' H' →
      ((Its l).stop i H' ∧ ys.length ≤ sizeLine ∧ R ys H') ∨
      ((Its l).go i H' ∧ ys.length ≤ sizeLine ∧ ∃ N : List V → St → Hp → Prop, (∀ ys' σ2 H2, N ys' σ2 H2 → ∃ m', m' < m ∧ W (i + 1) m' ys' σ2 H2) ∧
        ∀ x H2, (Its l).yld i H' x H2 → g x σ' H2 fun σ2 H3 => tc σ2 H3 fun b H4 => if b = true then te σ2 H4 fun y H5 => N (ys ++ [y]) σ2 H5 else N ys σ2 H4) :=
  cmp_gen (n := l.length) Pv h0 hz (fun ys σ H p => ⟨Nat.le_refl _, hst ys σ H p⟩) fun i ys σ H hi p => ⟨hi, fun x H2 y => by
    obtain ⟨e, c, hc, ex⟩ := y
    subst e ex
    exact hgo i c ys σ _ hc p⟩
end
section
variable {σ : St} {H : Hp} {ta tb : TE}
theorem evl_lenS {w : List Nat} (a : Evl ta σ H (.str (txt w))) (h : w.length ≤ 1000000) : Evl (tCB (fun xs H Q => ∃ z : Str, xs = [.str z] ∧ z.length ≤ sizeLine ∧ Q (.int z.length) H) (tCons ta tNil)) σ H (.int (w.length : Nat)) := fun Q q =>
  a _ ⟨txt w, rfl, by rw [txt_len]; exact Nat.le_trans h (by decide), by rw [txt_len]; exact q⟩
theorem evl_addS {u w : List Nat} (a : Evl ta σ H (.str (txt u))) (b : Evl tb σ H (.str (txt w))) (h : u.length + w.length ≤ 1000000) : Evl (tOp (fun x y H Q => ∃ i j, x = .str i ∧ y = .str j ∧ i.length + j.length ≤ sizeLine ∧ Q (.str (i ++ j)) H) ta tb) σ H (.str (txt (u ++ w))) := fun Q q =>
  a _ (b _ ⟨txt u, txt w, rfl, rfl, by rw [txt_len, txt_len]; exact Nat.le_trans h (by decide), by rw [txt_app]; exact q⟩)
theorem tst_andL {t u : TT} {p q : Prop} [Decidable p] [Decidable q] (a : Tst t σ H p) (b : p → Tst u σ H q) : Tst (tAnd t u) σ H (p ∧ q) := fun Q z => a _ (by
  by_cases h : p
  · rw [decide_eq_true h, if_pos rfl]
    refine b h _ ?_
    have e : decide (p ∧ q) = decide q := by rw [decide_eq_decide]; exact ⟨fun z => z.2, fun z => ⟨h, z⟩⟩
    rw [← e]; exact z
  · rw [decide_eq_false h, if_neg Bool.false_ne_true]
    have e : decide (p ∧ q) = false := decide_eq_false fun z => h z.1
    rw [← e]; exact z)
theorem while_n {c : TT} {tb : TS} {D : Ends} (Pv : Nat → St → Hp → Prop) (m0 : Nat) (h0 : Pv m0 σ H)
    (hs : ∀ m σ H, Pv m σ H → ∃ (p : Prop) (_ : Decidable p), Tst c σ H p ∧ (p → tb { D with nx := fun σ' H' => ∃ m', m' < m ∧ Pv m' σ' H', ct := fun σ' H' => ∃ m', m' < m ∧ Pv m' σ' H', bk := D.nx } σ H) ∧ (¬ p → D.nx σ H)) : tWhile c tb D σ H := by
  refine ⟨Pv, ⟨m0, h0⟩, fun m σ H p => ?_⟩
  obtain ⟨q, dq, t, h1, h2⟩ := hs m σ H p
  refine t _ ?_
  by_cases z : q
  · rw [decide_eq_true z, if_pos rfl]
    exact ⟨_, fun _ _ y => y, h1 z⟩
  · rw [decide_eq_false z, if_neg Bool.false_ne_true]
    exact h2 z
theorem run_gname {i : Nat} {v : V} {Q : St → Hp → Prop} (h : Q (σ.set i (some v)) H) : gName i v σ H Q := h
end
end L2
set_option Elab.async false
set_option linter.all false
set_option maxRecDepth 100000
namespace L2
open PySem PySem.Spec PyProof.Rows PySem.W
section
variable {P : Program} {w : World} {K : PySem.W.Frag} {mg : Str → Option Value} {base : Heap} {N : List Str} {qual : Str} {scope : Scope} {f : Addr} {cd : Value} {A : Around} {outer : List Env} {s₀ : Shared} {H₀ : Hp} {E : XK}
theorem passEE : Passes (CXE P w) (cxOf (CXE P w) P w K mg base N qual scope f cd A outer s₀ H₀ E) E := by
  intro pins σ H s e s' I q
  obtain ⟨ea, T, C, H', rfl, os, bare, un, hok, fly, q⟩ := q
  have I2 : Inv (cxOf (CXE P w) P w K mg base N qual scope f cd A outer s₀ H₀ E) pins σ H' s' := I.call' (ch := []) os un hok bare (fun b z => nomatch z)
  obtain ⟨oe, vs, a0, oT, ts, e1, e2, e3, e4, e5, e6, e7, e8⟩ := fly.ob
  have no0 : ∀ b, s.heap.get? b = none → s₀.heap.get? b = none := fun b z => by
    cases y : s₀.heap.get? b with
    | none => rfl
    | some o =>
      obtain ⟨o', z'⟩ := I.base.there b o y (fun m => nomatch m)
      rw [z] at z'
      cases z'
  have no2 : ∀ b, s'.heap.get? b = none → s₀.heap.get? b = none := fun b z => by
    cases y : s₀.heap.get? b with
    | none => rfl
    | some o =>
      obtain ⟨o', z'⟩ := I2.base.there b o y (fun m => nomatch m)
      rw [z] at z'
      cases z'
  have ff : s'.heap.FunFrames (hideAll s'.heap (ea :: T :: frs (envOfC qual scope s₀.heap.objs.size f cd :: outer))) (envOfC qual scope s₀.heap.objs.size f cd :: outer) := I2.hid _ fun b hb => List.mem_cons_of_mem _ (List.mem_cons_of_mem _ hb)
  have fl : Heap.FlyingW (hideAll s'.heap (ea :: T :: frs (envOfC qual scope s₀.heap.objs.size f cd :: outer))) (envOfC qual scope s₀.heap.objs.size f cd :: outer) ea (.ref C) a0 s'.heap :=
    ⟨fun b o z => of_hideAll _ z, hideAll_none _ List.mem_cons_self, ff, oe, vs, T, oT, ts, e1, ⟨e2, e4⟩, e3, e5, hideAll_none _ (List.mem_cons_of_mem _ List.mem_cons_self), fly.ne, e6, e7, e8⟩
  show wpAny _ _ (leaving _ _) _ _ _
  refine wpAny_leaves_onW I2.ok.frames rfl fl fun h2 fl2 up => ?_
  have inB : ∀ b o, b ≠ ea → b ≠ T → b ∉ frs (envOfC qual scope s₀.heap.objs.size f cd :: outer) → s'.heap.get? b = some o → h2.get? b = some o := fun b o n1 n2 nb z => fl2.1 b o (hideAll_get _ z (by
    intro m
    rcases List.mem_cons.mp m with m | m
    · exact n1 m
    · rcases List.mem_cons.mp m with m | m
      · exact n2 m
      · exact nb m))
  have upS : ∀ b o, b ∈ frs (envOfC qual scope s₀.heap.objs.size f cd :: outer) → s'.heap.get? b = some o → ∃ sl, h2.get? b = some { o with slots := sl } := fun b o nb z => by
    obtain ⟨_, o', z', hd⟩ := I2.stack.mem nb
    rw [z] at z'
    cases z'
    exact up b o z hd
  have notL : ∀ b o, s₀.heap.get? b = some o → b ∉ frs outer → b ∉ frs (envOfC qual scope s₀.heap.objs.size f cd :: outer) := fun b o z nb m => by
    rcases List.mem_cons.mp (I2.stkSub b m) with z' | z'
    · have := Heap.lt_size z
      have z' : b = s₀.heap.objs.size := z'
      rw [z'] at this
      exact Nat.lt_irrefl _ this
    · exact nb z'
  have neE : ∀ b o, s₀.heap.get? b = some o → b ≠ ea ∧ b ≠ T := fun b o z => ⟨(fun y => by rw [y, no0 _ fly.ne0] at z; cases z), (fun y => by rw [y, no0 _ fly.nT0] at z; cases z)⟩
  obtain ⟨_, _, _, oe', vs', T', oT', ts', a1, ⟨a2, a3⟩, a4, a5, a6, a7, a8, a9, a10⟩ := fl2
  have hT' : T' = T ∨ s'.heap.get? T' = none := by
    by_cases hTT : T' = T
    · exact .inl hTT
    · right
      cases z : s'.heap.get? T' with
      | none => rfl
      | some o =>
        by_cases hb : T' ∈ frs (envOfC qual scope s₀.heap.objs.size f cd :: outer)
        · obtain ⟨_, o', z', hd⟩ := I2.stack.mem hb
          obtain ⟨sl, z2⟩ := upS T' o hb z
          rw [z] at z'
          cases z'
          rw [a8] at z2
          cases z2
          exact absurd a9 (hd ts')
        · rw [hideAll_get _ z (by
            intro m
            rcases List.mem_cons.mp m with m | m
            · exact a7 m
            · rcases List.mem_cons.mp m with m | m
              · exact hTT m
              · exact hb m)] at a6
          cases a6
  have fT' : H' T' = none := by
    rcases hT' with e | e
    · rw [e]; exact fly.fT
    · exact I2.none_of e
  have nT' : s₀.heap.get? T' = none := by
    rcases hT' with e | e
    · rw [e]; exact no0 _ fly.nT0
    · exact no2 _ e
  refine ⟨ea, T', C, H', rfl, I2.os, I2.bare, ⟨fun b o z n nb _ => ?_, fun b o z n nb _ => ?_, fun b o z n _ => I2.base.free b o z n (fun m => nomatch m), fun b o z _ => ?_, I2.base.tups, I2.base.frzs, I2.base.tbls⟩, fun a o z => ?_,
    ⟨⟨oe', vs', a0, oT', ts', a1, a2, a4, a3, a5, a8, a9, a10⟩, a7, fly.fe, fT', no0 _ fly.ne0, nT'⟩, q⟩
  · exact inB b o (neE b o z).1 (neE b o z).2 (notL b o z nb) (I2.base.keep b o z n nb (fun m => nomatch m))
  · obtain ⟨sl, z1⟩ := I2.base.slot b o z n nb (fun m => nomatch m)
    obtain ⟨sl', z2⟩ := upS b _ (by
      show b ∈ frs _
      unfold frs
      rw [List.filterMap_cons]
      exact List.mem_cons_of_mem _ nb) z1
    exact ⟨sl', z2⟩
  · obtain ⟨o', z'⟩ := I2.base.there b o z (fun m => nomatch m)
    by_cases hb : b ∈ frs (envOfC qual scope s₀.heap.objs.size f cd :: outer)
    · obtain ⟨sl, z2⟩ := upS b o' hb z'
      exact ⟨_, z2⟩
    · exact ⟨o', inB b o' (neE b o z).1 (neE b o z).2 hb z'⟩
  · refine (I2.hok a o z).stay (fun b u hb r => ?_) (fun _ y => y) fun _ _ y => y
    have hbH : ∃ x, H' b = some x := by
      rcases hb with rfl | hb
      · exact ⟨_, z⟩
      · exact ⟨_, hb⟩
    obtain ⟨x, hx⟩ := hbH
    refine inB b u (fun m => ?_) (fun m => ?_) (fun m => ?_) r
    · rw [m, fly.fe] at hx; cases hx
    · rw [m, fly.fT] at hx; cases hx
    · have := I2.stkFree b m
      rw [hx] at this
      cases this
end
end L2
set_option Elab.async false
set_option linter.all false
set_option maxRecDepth 100000
namespace L2
open PySem PySem.Spec PyProof.Rows
section
variable {g : TG} {tc : TT} {te : TE} {σ0 : St} {H0 : Hp} {R : List V → Hp → Prop} {K : PySem.W.Frag} {a b : Addr} {xs ys : List V}
end
end L2
set_option Elab.async false
set_option linter.all false
set_option maxRecDepth 100000
namespace Lin
theorem app_inj : ∀ {a b : W} {x y : W}, 32 ∉ a → 32 ∉ b → a ++ 32 :: x = b ++ 32 :: y → a = b ∧ x = y
  | [], [], x, y, _, _, h => by cases h; exact ⟨rfl, rfl⟩
  | [], c :: b, x, y, _, hb, h => by
    cases h
    exact absurd List.mem_cons_self hb
  | c :: a, [], x, y, ha, _, h => by
    cases h
    exact absurd List.mem_cons_self ha
  | c :: a, d :: b, x, y, ha, hb, h => by
    have h : c :: (a ++ 32 :: x) = d :: (b ++ 32 :: y) := h
    injection h with h1 h2
    obtain ⟨e1, e2⟩ := app_inj (fun z => ha (List.mem_cons_of_mem _ z)) (fun z => hb (List.mem_cons_of_mem _ z)) h2
    exact ⟨by rw [h1, e1], e2⟩
theorem glue_inj : ∀ (A B : List W), A ≠ [] → B ≠ [] → (∀ a ∈ A, 32 ∉ a) → (∀ b ∈ B, 32 ∉ b) → glue A = glue B → A = B
  | [], _, h, _, _, _, _ => absurd rfl h
  | _, [], _, h, _, _, _ => absurd rfl h
  | [a], [b], _, _, _, _, h => by
    have h : a = b := h
    rw [h]
  | [a], b :: c :: r, _, _, ha, _, h => by
    have h : a = b ++ 32 :: glue (c :: r) := h
    exact absurd (by rw [h]; simp) (ha a List.mem_cons_self)
  | a :: c :: r, [b], _, _, _, hb, h => by
    have h : a ++ 32 :: glue (c :: r) = b := h
    exact absurd (by rw [← h]; simp) (hb b List.mem_cons_self)
  | a :: c :: r, b :: d :: t, _, _, ha, hb, h => by
    have h : a ++ 32 :: glue (c :: r) = b ++ 32 :: glue (d :: t) := h
    obtain ⟨e1, e2⟩ := app_inj (ha a List.mem_cons_self) (hb b List.mem_cons_self) h
    rw [e1, glue_inj (c :: r) (d :: t) (by simp) (by simp) (fun z hz => ha z (List.mem_cons_of_mem _ hz)) (fun z hz => hb z (List.mem_cons_of_mem _ hz)) e2]
end Lin
namespace L2
open PySem PySem.Spec PyProof.Rows PySem.Builtin PySem.Builtin.Str Lin
theorem txt_toList (p : Str) : txt p.cps.toList = p := by
  refine Str.ext' ?_
  simp [txt]
theorem split_glue {ws : List W} (hn : ws ≠ []) (hw : ∀ w ∈ ws, w ≠ [] ∧ 32 ∉ w) : Txt.split (txt (glue ws)) (txt [32]) = ws.map txt := by
  have j := StrLaws.join_split (txt (glue ws)) (txt [32])
  have fr := StrLaws.split_free (txt (glue ws)) 32
  have fr : ∀ p ∈ Txt.split (txt (glue ws)) (txt [32]), 32 ∉ p.cps.toList := fr
  generalize Txt.split (txt (glue ws)) (txt [32]) = ps at j fr
  have e : (ps.map fun p => p.cps.toList).map txt = ps := by
    rw [List.map_map]
    conv => rhs; rw [← List.map_id ps]
    exact List.map_congr_left fun p _ => txt_toList p
  rw [← e, join_glue] at j
  have j := txt_inj j
  have ne : (ps.map fun p => p.cps.toList) ≠ [] := fun z => by
    rw [z] at j
    match ws, hn, hw, j with
    | [a], _, hw, j => exact (hw a List.mem_cons_self).1 j.symm
    | a :: b :: r, _, hw, j =>
      have j : [] = a ++ 32 :: glue (b :: r) := j
      exact absurd j.symm (by simp)
  have q := glue_inj _ _ ne hn (fun a ha => by
    obtain ⟨p, hp, rfl⟩ := List.mem_map.mp ha
    exact fr p hp) (fun b hb => (hw b hb).2) j
  rw [← q, e]
theorem vals_strs : ∀ {l : List (Str × Tok)} {ws : List W}, l.map (·.1) = ws.map txt → Vals (ws.map fun w => V.str (txt w)) (strValues l)
  | [], [], _ => .nil
  | [], _ :: _, h => nomatch h
  | _ :: _, [], h => nomatch h
  | (x, t) :: l, w :: ws, h => by
    injection h with h1 h2
    have h1 : x = txt w := h1
    subst h1
    exact .cons ⟨t, rfl⟩ (vals_strs h2)
section
variable {X : Cx}
theorem mt_splitB : MtR X "str.split" (fun x vs H Q => ∃ ws : List W, x = .str (txt (glue ws)) ∧ vs = [.str " "] ∧ ws ≠ [] ∧ (∀ w ∈ ws, w ≠ [] ∧ 32 ∉ w) ∧ (glue ws).length ≤ 1000000 ∧ ws.length ≤ 1000000 ∧ ∀ l, H l = none → Q (.ref l) (upd H l (.lst (ws.map fun w => V.str (txt w))))) := by
  intro pins s σ H x xs v us Q I rx rxs h
  obtain ⟨ws, rfl, rfl, hn, hw, hl, hl2, q⟩ := h
  obtain ⟨t, rfl⟩ := rx
  obtain ⟨z, rfl, u, rfl⟩ := vals1 rxs
  have eb : (" " : Str) = txt [32] := by decide +kernel
  rw [eb]
  have hs := split_glue hn hw
  have hx : (txt (glue ws)).length ≤ 1000000 := by rw [txt_len]; exact hl
  have big : (1000002 : Nat) ≤ sizeLine := by decide
  generalize txt (glue ws) = x at hs hx
  have hy : ((txt [32]).length == 0) = false := by decide +kernel
  have fin : ∀ (l : List (Str × Tok)) (k : Nat), l.map (·.1) = Txt.split x (txt [32]) → EP X pins σ Q (.ref s.heap.objs.size) { s with heap := s.heap.push { cls := .type "list", data := .seq (strValues l).toArray }, toks := k } := fun l k e =>
    ⟨.ref s.heap.objs.size, _, I.laid (t' := k) (fun b u e => Heap.get?_push_of_some _ e) (Nat.le_refl _) (show ObjOk X.prog X.w _ _ _ (.lst (ws.map fun w => V.str (txt w))) from ⟨by rw [List.length_map]; omega, strValues l, _, vals_strs (e.trans hs), Heap.get?_push_size _ rfl⟩), rfl, q _ (I.hok.fresh (Nat.le_refl _))⟩
  have hnn : (partsBetween x (occurrences x (txt [32]) 0 x.length (x.length + 1)) (txt [32]).length).length ≤ sizeLine := by
    have e1 := StrLaws.occ_length_le x (txt [32]) 0 x.length (x.length + 1)
    rw [length_partsBetween]
    omega
  cases h1 : (decide (x.length < (txt [32]).length) || decide (strKind x < strKind (txt [32])))
  · cases hf : (occurrences x (txt [32]) 0 x.length (x.length + 1)).isEmpty
    · refine call_meets F.slot_str_split (typeIs_str _ _ _) F.entry_str_split (F.args_str_split_2 _ _) (meets_str_split_sep x (txt [32]) t u h1 hy hf (by omega) hnn) ?_
      show wants _ _ _ { s with toks := _, heap := s.heap.push { cls := .type "list", data := .seq (strsFrom s.toks (partsBetween x (occurrences x (txt [32]) 0 x.length (x.length + 1)) (txt [32]).length)).toArray } }
      rw [strsFrom_eq]
      exact fin (numbered s.toks _) _ ((numbered_texts _ _).trans ((if_neg (ne_true_of_eq_false h1)).trans (if_neg (ne_true_of_eq_false hf))).symm)
    · exact call_meets F.slot_str_split (typeIs_str _ _ _) F.entry_str_split (F.args_str_split_2 _ _) (meets_str_split_not_found x (txt [32]) t u h1 hy hf)
        (fin [(x, t)] s.toks ((if_neg (ne_true_of_eq_false h1)).trans (if_pos hf)).symm)
  · exact call_meets F.slot_str_split (typeIs_str _ _ _) F.entry_str_split (F.args_str_split_2 _ _) (meets_str_split_cannot_occur x (txt [32]) t u h1)
      (fin [(x, t)] s.toks (if_pos h1).symm)
end
end L2
set_option Elab.async false
set_option linter.all false
set_option maxRecDepth 100000
namespace L2
open PySem PySem.Spec PyProof.Rows
theorem vals_pick {xs : List V} {us : List Value} (h : Vals xs us) : ∀ ix : List Nat, Vals (ix.filterMap (xs[·]?)) (ix.filterMap (us[·]?))
  | [] => .nil
  | i :: ix => by
    rw [List.filterMap_cons, List.filterMap_cons]
    have hl := h.length
    cases e : xs[i]? with
    | none =>
      have e2 : us[i]? = none := by
        rw [List.getElem?_eq_none_iff] at e ⊢
        omega
      rw [e2]
      exact vals_pick h ix
    | some x =>
      obtain ⟨u, hu, ru⟩ := h.get e
      rw [hu]
      exact .cons ru (vals_pick h ix)
section
variable {X : Cx}
def tStep (K : PySem.W.Frag) (te ta tb tc : TE) : TE := fun σ H Q => te σ H fun x H1 => ta σ H1 fun y1 H2 => tb σ H2 fun y2 H3 => tc σ H3 fun y3 H4 =>
  ∃ i j k a xs, y1 = .int i ∧ y2 = .int j ∧ y3 = .int k ∧ k ≠ 0 ∧ x = .ref a ∧ SqL K H4 a xs ∧ ∀ (ys : List V) (p : Addr), (∀ y ∈ ys, y ∈ xs) → ys.length ≤ xs.length → H4 p = none → Q (.ref p) (upd H4 p (.lst ys))
theorem pe_step {e a b c : Expr} {te ta tb tc : TE} {p2 pos : Pos} (he : PE X e te) (ha : PE X a ta) (hb : PE X b tb) (hc : PE X c tc) : PE X (.Subscript e (.Slice (some a) (some b) (some c) p2) pos) (tStep X.K te ta tb tc) := by
  intro pins s σ H Q I h
  refine Subscript_ (thn (he pins s σ H _ I h) fun v s1 ⟨x, H1, I1, r1, q1⟩ => ?_)
  refine wpAny_Slice ?_
  rw [evalPart_some]
  refine thn (ha pins s1 σ H1 _ I1 q1) fun v1 s2 ⟨y1, H2, I2, r2, q2⟩ => ?_
  rw [evalPart_some]
  refine thn (hb pins s2 σ H2 _ I2 q2) fun v2 s3 ⟨y2, H3, I3, r3, q3⟩ => ?_
  rw [evalPart_some]
  refine thn (hc pins s3 σ H3 _ I3 q3) fun v3 s4 ⟨y3, H4, I4, r4, i, j, k, l, xs, e1, e2, e3, hk, ex, hx, q⟩ => ?_
  subst e1 e2 e3 ex
  obtain ⟨t1, rfl⟩ := r2
  obtain ⟨t2, rfl⟩ := r3
  obtain ⟨t3, rfl⟩ := r4
  cases r1
  have I5 : Inv X pins σ H4 { s4 with heap := s4.heap.push { cls := .type "slice", data := .fields #[.int i t1, .int j t2, .int k t3] } } := I4.kept (t' := s4.toks) fun b ob q => Heap.get?_push_of_some _ q
  obtain ⟨its, r, ht, hz⟩ := I5.list hx
  have hlen := r.length
  refine tail_any (ops := [.ref l, .ref s4.heap.objs.size]) ht.isList.typeIs slot_list_getitem.lookup ?_ (by with_unfolding_all rfl)
  refine wpAny_getItem_list_slice ht.isList (Heap.IsSliceOf.new ..) (.int i t1) (.int j t2) (.int k t3) (by simpa using hk) ?_ (by rw [List.size_toArray] <;> omega)
  have hp : ∃ ix : List Nat, slicePick its.toArray (some i) (some j) (some k) = (ix.filterMap (its[·]?)).toArray := ⟨_, by unfold slicePick; simp only [List.getElem?_toArray]; rfl⟩
  have hz2 := slicePick_size_le its.toArray (some i) (some j) (some k)
  obtain ⟨ix, e⟩ := hp
  rw [e] at hz2 ⊢
  have vp := vals_pick r ix
  have lp := vp.length
  have le : (ix.filterMap (xs[·]?)).length ≤ xs.length := by
    rw [lp]
    simp only [List.size_toArray] at hz2
    omega
  refine ⟨.ref _, _, I5.laid (t' := s4.toks) (o := .lst (ix.filterMap (xs[·]?))) (fun b ob q => Heap.get?_push_of_some _ q) (Nat.le_refl _) ⟨by omega, _, 0, vp, Heap.get?_push_size _ rfl⟩, rfl, q _ _ (fun y hy => ?_) le (I5.hok.fresh (Nat.le_refl _))⟩
  obtain ⟨n, _, hn⟩ := List.mem_filterMap.mp hy
  exact List.mem_of_getElem? hn
theorem call_sumG (hc : X.calm = true) : CallR X (.builtin "sum") (fun xs H Q => ∃ (a : Addr) (ns : List Int), xs = [.ref a] ∧ SqL X.K H a (ns.map V.int) ∧ Q (.int ns.sum) H) := by
  intro pins s σ H xs us Q I r h
  obtain ⟨a, ns, rfl, hq, q⟩ := h
  obtain ⟨u, rfl, ru⟩ := vals1 r
  cases ru
  obtain ⟨its, rv, tp, hz⟩ := I.list hq
  have hl := rv.length
  rw [List.length_map] at hl
  refine call_sum_walkG (lst_walk' I tp.isList hc fun s2 e W st hfp => ?_)
  subst e
  refine ⟨_, _, _, _, _, _, fun i => ns.getD i 0, rfl, W, st, hfp, nums_of rv, fun h' tk t' hk => ?_⟩
  refine ⟨.int ns.sum, H, I.kept (t' := tk) fun b o e => hk b o (fun m => ?_) (Heap.get?_push_of_some _ e), ⟨t', ?_⟩, q⟩
  · have := Heap.lt_size e
    rw [List.mem_singleton.mp m] at this
    exact Nat.lt_irrefl _ this
  · rw [List.size_toArray, ← hl, preSum_take ns _ (Nat.le_refl _), List.take_length]
theorem pe_stepK {K : PySem.W.Frag} {e a b c : Expr} {te ta tb tc : TE} {p2 pos : Pos} (hK : X.K = K) (he : PE X e te) (ha : PE X a ta) (hb : PE X b tb) (hc : PE X c tc) : PE X (.Subscript e (.Slice (some a) (some b) (some c) p2) pos) (tStep K te ta tb tc) := by
  subst hK
  exact pe_step he ha hb hc
theorem call_sumGK {K : PySem.W.Frag} (hK : X.K = K) (hc : X.calm = true) : CallR X (.builtin "sum") (fun xs H Q => ∃ (a : Addr) (ns : List Int), xs = [.ref a] ∧ SqL K H a (ns.map V.int) ∧ Q (.int ns.sum) H) := by
  subst hK
  exact call_sumG hc
end
end L2
set_option Elab.async false
set_option linter.all false
namespace Lin
def putG (wide : Int) (gs : List (List W)) (v : W) : List (List W) :=
  match gs.getLast? with
  | some g => if ((glue g).length : Int) + 1 + v.length ≤ wide then gs.dropLast ++ [g ++ [v]] else gs ++ [[v]]
  | none => [[v]]
def grp (wide : Int) (ws : List W) : List (List W) := ws.foldl (putG wide) []
theorem grp_snoc (wide : Int) (ws : List W) (v : W) : grp wide (ws ++ [v]) = putG wide (grp wide ws) v := by
  unfold grp
  rw [List.foldl_append]
  rfl
theorem putG_last (wide : Int) (R : List (List W)) (g : List W) (v : W) : putG wide (R ++ [g]) v = if ((glue g).length : Int) + 1 + v.length ≤ wide then R ++ [g ++ [v]] else R ++ [g] ++ [[v]] := by
  unfold putG
  rw [List.getLast?_concat, List.dropLast_concat]
theorem nil_or_snoc {α : Type} (l : List α) : l = [] ∨ ∃ r a, l = r ++ [a] := by
  by_cases h : l = []
  · exact .inl h
  · exact .inr ⟨_, _, (List.dropLast_concat_getLast h).symm⟩
theorem grp_ne (wide : Int) (ws : List W) : (∀ g ∈ grp wide ws, g ≠ []) ∧ (ws ≠ [] → grp wide ws ≠ []) :=
  snoc_ind (P := fun ws => (∀ g ∈ grp wide ws, g ≠ []) ∧ (ws ≠ [] → grp wide ws ≠ [])) ⟨fun g hg => (List.not_mem_nil hg).elim, fun h => absurd rfl h⟩ (fun ws v ih => by
    rw [grp_snoc]
    rcases nil_or_snoc (grp wide ws) with e | ⟨R, g, e⟩
    · rw [e]
      exact ⟨fun g hg => by rw [List.mem_singleton.mp hg]; simp, fun _ => by simp [putG]⟩
    · rw [e] at ih ⊢
      rw [putG_last]
      split
      · refine ⟨fun h hh => ?_, fun _ => by simp⟩
        rcases List.mem_append.mp hh with m | m
        · exact ih.1 h (List.mem_append_left _ m)
        · rw [List.mem_singleton.mp m]; simp
      · refine ⟨fun h hh => ?_, fun _ => by simp⟩
        rcases List.mem_append.mp hh with m | m
        · exact ih.1 h m
        · rw [List.mem_singleton.mp m]; simp) _ ws rfl
theorem grp_glue (wide : Int) (ws : List W) : (grp wide ws).map glue = taken wide ws :=
  snoc_ind (P := fun ws => (grp wide ws).map glue = taken wide ws) rfl (fun ws v ih => by
    rw [grp_snoc, taken_snoc, ← ih]
    rcases nil_or_snoc (grp wide ws) with e | ⟨R, g, e⟩
    · rw [e]
      rfl
    · have gn := (grp_ne wide ws).1 g (by rw [e]; simp)
      rw [e, putG_last, List.map_append]
      unfold put
      rw [show (List.map glue [g]) = [glue g] from rfl, List.getLast?_concat, List.dropLast_concat]
      dsimp only
      split
      · rw [List.map_append]
        show R.map glue ++ [glue (g ++ [v])] = _
        rw [glue_snoc _ _ gn]
      · rw [List.map_append, List.map_append]
        rfl) _ ws rfl
end Lin
set_option Elab.async false
set_option linter.all false
namespace Lin
end Lin
set_option Elab.async false
set_option linter.all false
set_option maxRecDepth 100000
set_option maxHeartbeats 4000000
namespace L2
open PySem PySem.Spec PyProof.Rows
section
variable {κ : Type} [DecidableEq κ]
def valV (kvs : List (κ × V)) (k : κ) : Option V := (kvs.find? fun kv => decide (kv.1 = k)).map (·.2)
def putK (kvs : List (κ × V)) (k : κ) (v : V) : List (κ × V) :=
  if (kvs.any fun kv => decide (kv.1 = k)) = true then kvs.map (fun kv => if kv.1 = k then (kv.1, v) else kv) else kvs ++ [(k, v)]
theorem valV_pos {p : κ × V} {r : List (κ × V)} {k : κ} (e : p.1 = k) : valV (p :: r) k = some p.2 := by simp [valV, List.find?_cons, e]
theorem valV_neg {p : κ × V} {r : List (κ × V)} {k : κ} (e : ¬ p.1 = k) : valV (p :: r) k = valV r k := by simp [valV, List.find?_cons, e]
theorem valV_any (k : κ) : ∀ kvs : List (κ × V), (kvs.any fun kv => decide (kv.1 = k)) = (valV kvs k).isSome
  | [] => rfl
  | p :: r => by
    rw [List.any_cons]
    by_cases e : p.1 = k
    · simp only [valV_pos e, decide_eq_true e, Bool.true_or, Option.isSome_some]
    · rw [valV_neg e, decide_eq_false e, Bool.false_or]; exact valV_any k r
theorem valV_map (k j : κ) (y : V) : ∀ kvs : List (κ × V), valV (kvs.map fun kv => if kv.1 = k then (kv.1, y) else kv) j = (valV kvs j).map fun x => if j = k then y else x
  | [] => rfl
  | p :: r => by
    have ih := valV_map k j y r
    rw [List.map_cons]
    by_cases h : p.1 = k
    · rw [if_pos h]
      by_cases e : p.1 = j
      · rw [valV_pos (p := (p.1, y)) e, valV_pos e, Option.map_some, if_pos (e.symm.trans h)]
      · rw [valV_neg (p := (p.1, y)) e, valV_neg e, ih]
    · rw [if_neg h]
      by_cases e : p.1 = j
      · rw [valV_pos (p := p) e, valV_pos e, Option.map_some, if_neg (fun z => h (e.trans z))]
      · rw [valV_neg (p := p) e, valV_neg e, ih]
theorem valV_snoc (k j : κ) (y : V) : ∀ kvs : List (κ × V), valV kvs k = none → valV (kvs ++ [(k, y)]) j = if j = k then some y else valV kvs j
  | [], _ => by
    by_cases e : k = j
    · rw [if_pos e.symm]; exact valV_pos (p := (k, y)) e
    · rw [if_neg (fun z => e z.symm)]; exact valV_neg (p := (k, y)) e
  | p :: r, hn => by
    rw [List.cons_append]
    have hk : ¬ p.1 = k := fun z => by rw [valV_pos z] at hn; cases hn
    rw [valV_neg hk] at hn
    have ih := valV_snoc k j y r hn
    by_cases e : p.1 = j
    · rw [valV_pos e, valV_pos e, if_neg (fun z => hk (e.trans z))]
    · rw [valV_neg e, valV_neg e, ih]
theorem valV_put (kvs : List (κ × V)) (k j : κ) (y : V) : valV (putK kvs k y) j = if j = k then some y else valV kvs j := by
  unfold putK
  by_cases a : (kvs.any fun kv => decide (kv.1 = k)) = true
  · rw [if_pos a, valV_map]
    rw [valV_any] at a
    by_cases e : j = k
    · obtain ⟨x, hx⟩ := Option.isSome_iff_exists.mp a
      rw [if_pos e, e, hx, Option.map_some, if_pos rfl]
    · rw [if_neg e]
      cases valV kvs j with
      | none => rfl
      | some x => rw [Option.map_some, if_neg e]
  · rw [if_neg a]
    refine valV_snoc k j y kvs ?_
    rw [valV_any] at a
    cases q : valV kvs k with
    | none => rfl
    | some x => rw [q] at a; exact (a rfl).elim
theorem length_putK (kvs : List (κ × V)) (k : κ) (v : V) : (putK kvs k v).length ≤ kvs.length + 1 := by
  unfold putK
  split
  · rw [List.length_map]; omega
  · rw [List.length_append, List.length_cons, List.length_nil]; omega
theorem putK_new {kvs : List (κ × V)} {k : κ} (v : V) (h : valV kvs k = none) : putK kvs k v = kvs ++ [(k, v)] := by
  unfold putK
  rw [valV_any, h]
  exact if_neg (by decide)
theorem RelO.isSome_eq {o : Option V} {u : Option Value} (r : RelO o u) : o.isSome = u.isSome := by
  cases o with
  | none => cases u with
    | none => rfl
    | some _ => exact (show False from r).elim
  | some _ => cases u with
    | none => exact (show False from r).elim
    | some _ => rfl
theorem KV.val {kvs : List (κ × V)} {vs : List (κ × Value)} (r : KV kvs vs) (k : κ) : RelO (valV kvs k) (valueAt vs k) := by
  unfold KV at r
  induction r with
  | nil => exact True.intro
  | @cons p q ps qs h t ih =>
    obtain ⟨h1, h2⟩ := h
    by_cases e : p.1 = k
    · have e' : q.1 = k := h1.symm.trans e
      have b : valueAt (q :: qs) k = some q.2 := by simp [valueAt, List.find?_cons, e']
      rw [valV_pos e, b]; exact h2
    · have e' : ¬ q.1 = k := fun z => e (h1.trans z)
      have b : valueAt (q :: qs) k = valueAt qs k := by simp [valueAt, List.find?_cons, e']
      rw [valV_neg e, b]; exact ih
theorem KV.any {kvs : List (κ × V)} {vs : List (κ × Value)} (r : KV kvs vs) (k : κ) : (kvs.any fun kv => decide (kv.1 = k)) = vs.any fun kv => decide (kv.1 = k) := by
  unfold KV at r
  induction r with
  | nil => rfl
  | cons h t ih => rw [List.any_cons, List.any_cons, ih, h.1]
theorem KV.repl {kvs : List (κ × V)} {vs : List (κ × Value)} (r : KV kvs vs) (k : κ) {y : V} {u : Value} (ry : RelV y u) :
    KV (kvs.map fun kv => if kv.1 = k then (kv.1, y) else kv) (vs.map fun kv => if kv.1 = k then (kv.1, u) else kv) := by
  unfold KV at r ⊢
  induction r with
  | nil => exact .nil
  | @cons p q ps qs h t ih =>
    rw [List.map_cons, List.map_cons]
    refine .cons ?_ ih
    obtain ⟨h1, h2⟩ := h
    by_cases e : p.1 = k
    · rw [if_pos e, if_pos (h1.symm.trans e)]; exact ⟨h1, ry⟩
    · rw [if_neg e, if_neg (fun z => e (h1.trans z))]; exact ⟨h1, h2⟩
theorem KV.put {kvs : List (κ × V)} {vs : List (κ × Value)} (r : KV kvs vs) (k : κ) {y : V} {u : Value} (ry : RelV y u) : KV (putK kvs k y) (stored vs k u) := by
  unfold putK stored
  rw [r.any k]
  by_cases e : (vs.any fun kv => decide (kv.1 = k)) = true
  · rw [if_pos e, if_pos e]; exact r.repl k ry
  · rw [if_neg e, if_neg e]; exact Paired.snoc r ⟨rfl, ry⟩
theorem KV.keys {kvs : List (κ × V)} {vs : List (κ × Value)} (r : KV kvs vs) : kvs.map (·.1) = vs.map (·.1) := by
  unfold KV at r
  induction r with
  | nil => rfl
  | cons h t ih => rw [List.map_cons, List.map_cons, ih, h.1]
theorem KV.length {kvs : List (κ × V)} {vs : List (κ × Value)} (r : KV kvs vs) : kvs.length = vs.length := Paired.length r
end
theorem kV_is {P : Program} {w : World} {k : Key} {u : Value} (r : RelV (kV k) u) : (mixKind P w).is k u = true := by
  cases k with
  | inl i => obtain ⟨t, e⟩ := (show ∃ t, u = Value.int i t from r); subst e; exact mixKind_int P w i t
  | inr x => obtain ⟨t, e⟩ := (show ∃ t, u = Value.str x t from r); subst e; exact mixKind_str P w x t
theorem items_are {P : Program} {w : World} : ∀ {ks : List Key} {us : List Value}, Vals (ks.map kV) us → ItemsAre (mixKind P w) ks us
  | [], _, r => by rw [List.map_nil] at r; cases r; exact .nil
  | k :: ks, _, r => by
    rw [List.map_cons] at r
    cases r with
    | cons h t => exact .cons (kV_is h) (items_are t)
abbrev KT (H : Hp) : List (List Key × V) → List (List Key × Addr × Value) → Prop := Paired fun p q => p.1 = q.1 ∧ H q.2.1 = some (.tup (p.1.map kV)) ∧ RelV p.2 q.2.2
theorem KT.val {H : Hp} {kvs : List (List Key × V)} {xs : List (List Key × Addr × Value)} (r : KT H kvs xs) (k : List Key) : RelO (valV kvs k) ((atKey xs k).map (·.2)) := by
  induction r with
  | nil => exact True.intro
  | @cons p q ps qs h t ih =>
    obtain ⟨h1, _, h2⟩ := h
    by_cases e : p.1 = k
    · have e' : q.1 = k := h1.symm.trans e
      have b : atKey (q :: qs) k = some q.2 := by simp [atKey, List.find?_cons, e']
      rw [valV_pos e, b]; exact h2
    · have e' : ¬ q.1 = k := fun z => e (h1.trans z)
      have b : atKey (q :: qs) k = atKey qs k := by simp [atKey, List.find?_cons, e']
      rw [valV_neg e, b]; exact ih
theorem KT.repl {H : Hp} {kvs : List (List Key × V)} {xs : List (List Key × Addr × Value)} (r : KT H kvs xs) (k : List Key) {y : V} {u : Value} (ry : RelV y u) :
    KT H (kvs.map fun kv => if kv.1 = k then (kv.1, y) else kv) (xs.map (putAt k u)) := by
  induction r with
  | nil => exact .nil
  | @cons p q ps qs h t ih =>
    rw [List.map_cons, List.map_cons]
    refine .cons ?_ ih
    obtain ⟨h1, h2, h3⟩ := h
    unfold putAt
    by_cases e : p.1 = k
    · rw [if_pos e, if_pos (h1.symm.trans e)]; exact ⟨h1, h2, ry⟩
    · rw [if_neg e, if_neg (fun z => e (h1.trans z))]; exact ⟨h1, h2, h3⟩
theorem KT.put {H : Hp} {kvs : List (List Key × V)} {xs : List (List Key × Addr × Value)} (r : KT H kvs xs) (k : List Key) {b : Addr} {y : V} {u : Value} (hb : H b = some (.tup (k.map kV))) (ry : RelV y u) :
    KT H (putK kvs k y) (storedH xs k b u) := by
  have e : (kvs.any fun kv => decide (kv.1 = k)) = (atKey xs k).isSome := by
    rw [valV_any, (r.val k).isSome_eq, Option.isSome_map]
  unfold putK storedH
  rw [e]
  by_cases q : (atKey xs k).isSome = true
  · rw [if_pos q, if_pos q]; exact r.repl k ry
  · rw [if_neg q, if_neg q]; exact Paired.snoc r ⟨rfl, hb, ry⟩
theorem KT.keeps {H H' : Hp} {kvs : List (List Key × V)} {xs : List (List Key × Addr × Value)} (r : KT H kvs xs) (ht : ∀ b ys, H b = some (.tup ys) → H' b = some (.tup ys)) : KT H' kvs xs :=
  Paired.mapP r fun _ _ z => ⟨z.1, ht _ _ z.2.1, z.2.2⟩
section
variable {P : Program} {w : World} {H : Hp} {h : Heap} {a : Addr}
theorem rd_of {u : HO} (ok : HOk P w H h) (e : Rd H a u) : ObjOk P w H h a u := e.ok ok
theorem dk_rd {kvs : List (Key × V)} (ok : HOk P w H h) (e : Rd H a (.dK kvs)) : kvs.length ≤ sizeLine ∧ (a == sysModules) = false ∧ ∃ vs, KV kvs vs ∧ h.DictOf (mixKind P w) a vs :=
  show ObjOk P w H h a (.dK kvs) from rd_of ok e
theorem dk_of {kvs : List (Key × V)} (ok : HOk P w H h) (e : H a = some (.dK kvs)) : kvs.length ≤ sizeLine ∧ (a == sysModules) = false ∧ ∃ vs, KV kvs vs ∧ h.DictOf (mixKind P w) a vs := dk_rd ok (.inl e)
theorem key_of {ks : List Key} (ok : HOk P w H h) (e : H a = some (.tup (ks.map kV))) : (tupleKind (mixKind P w)).is h ks a := by
  obtain ⟨_, its, r, o, h1, h2, n, h3⟩ := (show ObjOk P w H h a (.tup (ks.map kV)) from ok a _ e)
  exact ⟨o, its.toArray, n, h1, h2, h3, by simpa using items_are r⟩
theorem dt_rd {kvs : List (List Key × V)} (ok : HOk P w H h) (e : Rd H a (.dT kvs)) : kvs.length ≤ sizeLine ∧ (a == sysModules) = false ∧
    ∃ xs, KT H kvs xs ∧ h.DictOfH (tupleKind (mixKind P w)) a xs := by
  obtain ⟨z, y, xs, r, o, es, ep, h1, h2, h3, h4, h5⟩ := (show ObjOk P w H h a (.dT kvs) from rd_of ok e)
  refine ⟨z, y, xs, r, o, es, ep, h1, h2, h3, h4, fun x hx => ?_, h5⟩
  have all : ∀ {l : List (List Key × V)} {m : List (List Key × Addr × Value)}, KT H l m → ∀ x ∈ m, (tupleKind (mixKind P w)).is h x.1 x.2.1 := by
    intro l m q
    induction q with
    | nil => intro x hx; exact nomatch hx
    | @cons p q ps qs hq t ih =>
      intro x hx
      rcases List.mem_cons.mp hx with e | hx
      · subst e
        exact key_of ok (by rw [← hq.1]; exact hq.2.1)
      · exact ih x hx
  exact all r x hx
theorem dt_of {kvs : List (List Key × V)} (ok : HOk P w H h) (e : H a = some (.dT kvs)) : kvs.length ≤ sizeLine ∧ (a == sysModules) = false ∧
    ∃ xs, KT H kvs xs ∧ h.DictOfH (tupleKind (mixKind P w)) a xs := dt_rd ok (.inl e)
end
def DGet (H : Hp) (a : Addr) (y : V) (r : Option V) : Prop :=
  (∃ kvs k, Rd H a (.dK kvs) ∧ y = kV k ∧ r = valV kvs k) ∨ ∃ kvs k b, Rd H a (.dT kvs) ∧ y = .ref b ∧ H b = some (.tup (k.map kV)) ∧ r = valV kvs k
def DPut (H : Hp) (a : Addr) (y v : V) (H' : Hp) : Prop :=
  (∃ kvs k, H a = some (.dK kvs) ∧ y = kV k ∧ kvs.length < sizeLine ∧ H' = upd H a (.dK (putK kvs k v))) ∨
  ∃ kvs k b, H a = some (.dT kvs) ∧ y = .ref b ∧ H b = some (.tup (k.map kV)) ∧ kvs.length < sizeLine ∧ H' = upd H a (.dT (putK kvs k v))
theorem DGet.k {H : Hp} {a : Addr} {kvs : List (Key × V)} {k : Key} (e : H a = some (.dK kvs)) : DGet H a (kV k) (valV kvs k) := .inl ⟨kvs, k, .inl e, rfl, rfl⟩
theorem DPut.k {H : Hp} {a : Addr} {kvs : List (Key × V)} {k : Key} {v : V} (e : H a = some (.dK kvs)) (hl : kvs.length < sizeLine) : DPut H a (kV k) v (upd H a (.dK (putK kvs k v))) := .inl ⟨kvs, k, e, rfl, hl, rfl⟩
section
variable {X : Cx} {pins : List (Addr × Obj)} {σ : St} {H : Hp} {s : Shared} {a : Addr} {y v : V} {u r : Value} {o : Option V} {A : Around} {E : Value → Shared → Prop}
theorem Inv.big (I : Inv X pins σ H s) : sysModules < s.heap.objs.size := by
  have h : mainGlobals < s.heap.objs.size := (I.mod.glob.keeps I.bk).lt
  exact Nat.lt_trans (by decide) h
theorem d_getItem {Q : Value → Shared → Prop} (hu : A.units + 1 < cLine) (I : Inv X pins σ H s) (g : DGet H a y (some v)) (ry : RelV y u) (h : ∀ w' s', Inv X pins σ H s' → RelV v w' → Q w' s') :
    wpAny (model X.prog X.w) A (getItem (.ref a) u) Q E s := by
  rcases g with ⟨kvs, k, e, ey, l⟩ | ⟨kvs, k, b, e, ey, eb, l⟩
  · subst ey
    obtain ⟨z, hd, vs, rel, dd⟩ := dk_rd I.hok e
    obtain ⟨w', hw, rw'⟩ := RelO.some_of (v := v) (o := valueAt vs k) (by rw [l]; exact rel.val k)
    exact wpAny_getItem_of (kV_is ry) dd.mapOf hw (h w' _ (I.tok _) rw')
  · subst ey
    cases (show u = Value.ref b from ry)
    obtain ⟨z, hd, xs, rel, dd⟩ := dt_rd I.hok e
    obtain ⟨w', hw, rw'⟩ := RelO.some_of (v := v) (o := (atKey xs k).map (·.2)) (by rw [l]; exact rel.val k)
    obtain ⟨p, hp, hp2⟩ := Option.map_eq_some_iff.mp hw
    refine wpAny_getItem_heap (tupleKind_room_in1 hu) (key_of I.hok eb) dd hp ?_
    rw [hp2]
    exact h w' _ (I.tok _) rw'
theorem d_in {Q : Value → Shared → Prop} (hu : A.units + 1 < cLine) (I : Inv X pins σ H s) (g : DGet H a y o) (ry : RelV y u) (h : ∀ s', Inv X pins σ H s' → Q (.bool o.isSome) s') :
    wpAny (model X.prog X.w) A (compareOp .In u (.ref a)) Q E s := by
  rcases g with ⟨kvs, k, e, ey, l⟩ | ⟨kvs, k, b, e, ey, eb, l⟩
  · subst ey
    obtain ⟨z, hd, vs, rel, dd⟩ := dk_rd I.hok e
    refine wpAny_in_of (kV_is ry) hd dd.mapOf ?_
    rw [← (rel.val k).isSome_eq, ← l]
    exact h _ (I.tok _)
  · subst ey
    cases (show u = Value.ref b from ry)
    obtain ⟨z, hd, xs, rel, dd⟩ := dt_rd I.hok e
    refine wpAny_in_heap (tupleKind_room_in1 hu) (key_of I.hok eb) hd dd ?_
    have q := (rel.val k).isSome_eq
    rw [Option.isSome_map] at q
    rw [← q, ← l]
    exact h _ (I.tok _)
theorem d_notIn {Q : Value → Shared → Prop} (hu : A.units + 1 < cLine) (I : Inv X pins σ H s) (g : DGet H a y o) (ry : RelV y u) (h : ∀ s', Inv X pins σ H s' → Q (.bool (!o.isSome)) s') :
    wpAny (model X.prog X.w) A (compareOp .NotIn u (.ref a)) Q E s := by
  rcases g with ⟨kvs, k, e, ey, l⟩ | ⟨kvs, k, b, e, ey, eb, l⟩
  · subst ey
    obtain ⟨z, hd, vs, rel, dd⟩ := dk_rd I.hok e
    refine wpAny_notIn_of (kV_is ry) hd dd.mapOf ?_
    rw [← (rel.val k).isSome_eq, ← l]
    exact h _ (I.tok _)
  · subst ey
    cases (show u = Value.ref b from ry)
    obtain ⟨z, hd, xs, rel, dd⟩ := dt_rd I.hok e
    refine wpAny_notIn_heap (tupleKind_room_in1 hu) (key_of I.hok eb) hd dd ?_
    have q := (rel.val k).isSome_eq
    rw [Option.isSome_map] at q
    rw [← q, ← l]
    exact h _ (I.tok _)
theorem d_write {h' : Heap} {t' : Nat} {ob : HO} (I : Inv X pins σ H s) (mu : Mut (H a)) (hs : Heap.SameBut a s.heap h') (he : ∃ q, h'.get? a = some q) (new : ObjOk X.prog X.w (upd H a ob) h' a ob) :
    Inv X pins σ (upd H a ob) { s with heap := h', toks := t' } :=
  I.write (x := a) (e := a) mu (.inl rfl) (fun b q hb z => (hs.2 b hb).trans z) he new
theorem dk_new {P : Program} {w : World} {H' : Hp} {h' : Heap} {kvs : List (Key × V)} {vs : List (Key × Value)} (z : kvs.length ≤ sizeLine) (hd : (a == sysModules) = false) (rel : KV kvs vs) (dd : h'.DictOf (mixKind P w) a vs) :
    ObjOk P w H' h' a (.dK kvs) := ⟨z, hd, vs, rel, dd⟩
theorem d_setItem {H' : Hp} {Q : Unit → Shared → Prop} (hu : A.units + 1 < cLine) (I : Inv X pins σ H s) (g : DPut H a y v H') (ry : RelV y u) (rv : RelV v r) (h : ∀ s', Inv X pins σ H' s' → Q () s') :
    wpAny (model X.prog X.w) A (setItem (.ref a) u r) Q E s := by
  rcases g with ⟨kvs, k, e, ey, l, eH⟩ | ⟨kvs, k, b, e, ey, eb, l, eH⟩
  · subst ey eH
    obtain ⟨z, hd, vs, rel, dd⟩ := dk_of I.hok e
    have hz : vs.length ≤ sizeLine := by rw [← rel.length]; exact z
    have hl : (putK kvs k v).length ≤ sizeLine := by have := length_putK kvs k v; omega
    refine wpAny_setItem_pairs (hsz := hz) (kV_is ry) dd fun h' dd' hs => h _ ?_
    have he : ∃ q, h'.get? a = some q := let ⟨q, _, _, hq, _⟩ := dd'; ⟨q, hq⟩
    exact d_write I (by rw [e]; exact True.intro) hs he (dk_new hl hd (rel.put k rv) dd')
  · subst ey eH
    cases (show u = Value.ref b from ry)
    obtain ⟨z, hd, xs, rel, dd⟩ := dt_of I.hok e
    have hz : xs.length ≤ sizeLine := by rw [← Paired.length rel]; exact z
    have hl : (putK kvs k v).length ≤ sizeLine := by have := length_putK kvs k v; omega
    refine wpAny_setItem_heap (hsz := hz) (tupleKind_room_in1 hu) (key_of I.hok eb) dd fun h' dd' hs => h _ ?_
    obtain ⟨q, es, ep, hq, h2, h3, h4, _, h5⟩ := dd'
    refine d_write I (by rw [e]; exact True.intro) hs ⟨q, hq⟩ ⟨hl, hd, _, (rel.put k eb rv).keeps fun c ys ec => ?_, q, es, ep, hq, h2, h3, h4, h5⟩
    rw [upd_ne (ne_of ec e (fun z => nomatch z))]
    exact ec
end
section
variable {X : Cx} {pins : List (Addr × Obj)} {σ : St} {H : Hp} {s : Shared} {a : Addr} {kvs : List (Key × V)} {k : Key} {u : Value} {A : Around} {E : Value → Shared → Prop}
end
def NoSl (i : Expr) : Prop := ∀ ov iv, subscripted i false ov iv = operate [ov, iv] (getItem ov iv)
theorem subD_of {prog : Program} {w : World} {A : Around} {E : Value → Shared → Prop} {s : Shared} {env : Env} {value slice : Expr} {pos : Pos} {T id : String} {Q : Value → Shared → Prop}
    (hl : typeLookup (.type T) "__getitem__" = pure (some (.builtin id))) (hs : NoSl slice)
    (h : wpAny (model prog w) A (eval value env) (fun o s₁ => wpAny (model prog w) A (eval slice env) (fun i s₂ => s₂.TypeIs o T ∧ wpAny (model prog w) A (getItem o i) Q E s₂) E s₁) E s) :
    wpAny (model prog w) A (eval (.Subscript value slice pos) env) Q E s := by
  refine Subscript_ (wpAny_mono h (fun o s₁ h₁ => wpAny_mono h₁ (fun i s₂ h₂ => ?_) fun _ _ x => x) fun _ _ x => x)
  obtain ⟨hT, h₂⟩ := h₂
  unfold subscriptTail
  refine wpAny_bind ?_
  rw [getitemInPython_of_ne hT.not_modules]
  refine wpAny_bind (wpAny_specialOf hT hl ?_)
  have fin : wpAny (model prog w) A (subscripted slice false o i) (fun r s₃ => wpAny (model prog w) A (letTemporaryGo value o r >>= fun _ => pure r) Q E s₃) E s₂ := by
    rw [hs o i]
    exact wpAny_operating (wpAny_mono h₂ (fun r s₃ h₃ => wpAny_bind (wpAny_letTemporaryGo (wpAny_pure h₃))) fun _ _ x => x)
  first
    | exact wpAny_pure (wpAny_bind fin)
    | exact wpAny_bind (wpAny_pure (wpAny_bind fin))
    | exact wpAny_bind fin
theorem dict_typeIs {X : Cx} {pins : List (Addr × Obj)} {σ : St} {H : Hp} {s : Shared} {a : Addr} {y : V} {o : Option V} (I : Inv X pins σ H s) (g : DGet H a y o) : s.TypeIs (.ref a) "dict" := by
  rcases g with ⟨kvs, k, e, _, _⟩ | ⟨kvs, k, b, e, _, _, _⟩
  · obtain ⟨_, _, vs, _, dd⟩ := dk_rd I.hok e
    exact dd.typeIs
  · obtain ⟨_, _, xs, _, dd⟩ := dt_rd I.hok e
    exact dd.typeIs
def tDGet (td ty : TE) : TE := fun σ H Q => td σ H fun x H1 => ty σ H1 fun y H2 => ∃ a v, x = .ref a ∧ DGet H2 a y (some v) ∧ Q v H2
def tDIn (ty td : TE) : TE := fun σ H Q => ty σ H fun y H1 => td σ H1 fun x H2 => ∃ a o, x = .ref a ∧ DGet H2 a y o ∧ Q (.bl o.isSome) H2
def tDNotIn (ty td : TE) : TE := fun σ H Q => ty σ H fun y H1 => td σ H1 fun x H2 => ∃ a o, x = .ref a ∧ DGet H2 a y o ∧ Q (.bl (!o.isSome)) H2
def sDPut (td ty tv : TE) : TS := fun D σ H => tv σ H fun v H1 => td σ H1 fun x H2 => ty σ H2 fun y H3 => ∃ a H4, x = .ref a ∧ DPut H3 a y v H4 ∧ D.nx σ H4
section
variable {X : Cx} {o i e value : Expr} {pos pos' tpos : Pos} {td ty tv : TE}
theorem pe_dget (hu : X.A.units + 1 < cLine) (ho : PE X o td) (hi : PE X i ty) (hs : NoSl i) : PE X (.Subscript o i pos) (tDGet td ty) := by
  intro pins s σ H Q I h
  refine subD_of PySem.F.slot_dict_getitem.lookup hs (thn (ho pins s σ H _ I h) fun u s1 ⟨x, H1, I1, rx, q1⟩ => thn (hi pins s1 σ H1 _ I1 q1) fun iv s2 ⟨y, H2, I2, ry, a, v, ex, g, q2⟩ => ?_)
  subst ex
  obtain rfl : u = Value.ref a := rx
  exact ⟨dict_typeIs I2 g, d_getItem hu I2 g ry fun w' s3 I3 rw' => ⟨v, H2, I3, rw', q2⟩⟩
theorem pc_din (hu : X.A.units + 1 < cLine) (hi : PE X i ty) (ho : PE X o td) : PC X .In i o (tDIn ty td) := by
  intro pins s σ H Q I h
  refine thn (hi pins s σ H _ I h) fun iv s1 ⟨y, H1, I1, ry, q1⟩ => thn (ho pins s1 σ H1 _ I1 q1) fun u s2 ⟨x, H2, I2, rx, a, ov, ex, g, q2⟩ => ?_
  subst ex
  obtain rfl : u = Value.ref a := rx
  exact d_in hu I2 g ry fun s3 I3 => ⟨.bl ov.isSome, H2, I3, rfl, q2⟩
theorem pc_dnotin (hu : X.A.units + 1 < cLine) (hi : PE X i ty) (ho : PE X o td) : PC X .NotIn i o (tDNotIn ty td) := by
  intro pins s σ H Q I h
  refine thn (hi pins s σ H _ I h) fun iv s1 ⟨y, H1, I1, ry, q1⟩ => thn (ho pins s1 σ H1 _ I1 q1) fun u s2 ⟨x, H2, I2, rx, a, ov, ex, g, q2⟩ => ?_
  subst ex
  obtain rfl : u = Value.ref a := rx
  exact d_notIn hu I2 g ry fun s3 I3 => ⟨.bl (!ov.isSome), H2, I3, rfl, q2⟩
theorem ps_dput (hu : X.A.units + 1 < cLine) (ho : PE X o td) (hi : PE X i ty) (hv : PE X value tv) (hs : swapsWith value (some (.Subscript o i pos')) pos.line X.env = pure false) :
    PS X (.Assign [.Subscript o i pos'] value pos) (sDPut td ty tv) := by
  intro pins s σ H D I h
  refine wpAny_Assign_Subscript (thn (hv pins s σ H _ I h) fun r s1 ⟨v, H1, I1, rv, q1⟩ => thn (ho pins s1 σ H1 _ I1 q1) fun u s2 ⟨x, H2, I2, rx, q2⟩ => thn (hi pins s2 σ H2 _ I2 q2) fun iv s3 ⟨y, H3, I3, ry, a, H4, ex, g, q3⟩ => ?_) hs
  subst ex
  obtain rfl : u = Value.ref a := rx
  exact d_setItem hu I3 g ry rv fun s4 I4 => ⟨σ, H4, I4, q3⟩
end
theorem dk_empty {P : Program} {w : World} {H : Hp} (h : Heap) (hb : sysModules < h.objs.size) : ObjOk P w H (h.push { cls := .type "dict", data := .dict #[] }) h.objs.size (.dK []) :=
  ⟨Nat.zero_le _, beq_eq_false_iff_ne.mpr (Ne.symm (Nat.ne_of_lt hb)), [], .nil, Heap.DictOf.new h⟩
def tDNewK : TE := fun _ H Q => ∀ p, H p = none → Q (.ref p) (upd H p (.dK []))
section
variable {X : Cx} {pos : Pos}
theorem pe_dnewK : PE X (.Dict [] [] pos) tDNewK := fun pins s σ H Q I h =>
  wpAny_Dict_empty ⟨.ref s.heap.objs.size, _, I.laid (a := s.heap.objs.size) (o := .dK []) (t' := s.toks) (fun _ _ q => Heap.get?_push_of_some _ q) (Nat.le_refl _) (dk_empty s.heap I.big), rfl, h _ (I.hok.fresh (Nat.le_refl _))⟩
end
def tPairs : List (TE × TE) → St → Hp → (List (V × V) → Hp → Prop) → Prop
  | [], _, H, Q => Q [] H
  | (tk, tv) :: r, σ, H, Q => tk σ H fun x H1 => tv σ H1 fun y H2 => tPairs r σ H2 fun ps H3 => Q ((x, y) :: ps) H3
abbrev VV : List (V × V) → List (Value × Value) → Prop := Paired fun p q => RelV p.1 q.1 ∧ RelV p.2 q.2
def PPs (X : Cx) (pos : Pos) (keys : List (Option Expr)) (values : List Expr) (trs : List (TE × TE)) : Prop :=
  ∀ (pins : List (Addr × Obj)) (s : Shared) (σ : St) (H : Hp) (Q : List (V × V) → Hp → Prop), Inv X pins σ H s → tPairs trs σ H Q →
    wpAny (model X.prog X.w) X.A (evalPairs (pairTrees keys values X.env pos)) (fun vs s' => ∃ ps H', Inv X pins σ H' s' ∧ VV ps vs ∧ Q ps H') X.xe s
theorem pps_nil {X : Cx} {pos : Pos} : PPs X pos [] [] [] := fun pins s σ H Q I h => pairTrees_nil_walk ⟨[], H, I, .nil, h⟩
theorem pps_cons {X : Cx} {pos : Pos} {k v : Expr} {ks : List (Option Expr)} {vs : List Expr} {tk tv : TE} {trs : List (TE × TE)} (hk : PE X k tk) (hv : PE X v tv) (hr : PPs X pos ks vs trs) :
    PPs X pos (some k :: ks) (v :: vs) ((tk, tv) :: trs) := fun pins s σ H Q I h =>
  pairTrees_cons_walk (thn (hk pins s σ H _ I h) fun u s1 ⟨x, H1, I1, rx, q1⟩ => thn (hv pins s1 σ H1 _ I1 q1) fun w2 s2 ⟨y, H2, I2, ry, q2⟩ =>
    thn (hr pins s2 σ H2 _ I2 q2) fun ws s3 ⟨ps, H3, I3, rel, q3⟩ => ⟨(x, y) :: ps, H3, I3, .cons ⟨rx, ry⟩ rel, q3⟩)
def mergeK (kvs more : List (Key × V)) : List (Key × V) := more.foldl (fun acc kv => putK acc kv.1 kv.2) kvs
theorem KV.merge : ∀ {more : List (Key × V)} {rs : List (Key × Value)} {kvs : List (Key × V)} {vs : List (Key × Value)}, KV more rs → KV kvs vs → KV (mergeK kvs more) (merged vs rs) := by
  intro more rs kvs vs r
  unfold KV at r
  induction r generalizing kvs vs with
  | nil => intro q; exact q
  | @cons p q ps qs h t ih =>
    intro r0
    have e : KV (putK kvs p.1 p.2) (stored vs q.1 q.2) := by
      have := r0.put p.1 h.2
      rw [← h.1]; exact this
    exact ih e
theorem length_mergeK : ∀ (more kvs : List (Key × V)), (mergeK kvs more).length ≤ kvs.length + more.length
  | [], kvs => by show kvs.length ≤ kvs.length + 0; omega
  | p :: r, kvs => by
    have h1 := length_mergeK r (putK kvs p.1 p.2)
    have h2 := length_putK kvs p.1 p.2
    show (mergeK (putK kvs p.1 p.2) r).length ≤ _
    rw [List.length_cons]; omega
theorem carries_of {P : Program} {w : World} : ∀ {kvs : List (Key × V)} {ws : List (Value × Value)}, VV (kvs.map fun kv => (kV kv.1, kv.2)) ws → ∃ rs, Carries (mixKind P w) ws rs ∧ KV kvs rs
  | [], _, r => by rw [List.map_nil] at r; cases r; exact ⟨[], True.intro, .nil⟩
  | p :: kvs, _, r => by
    rw [List.map_cons] at r
    cases r with
    | @cons a b as bs h t =>
      obtain ⟨rs, c, q⟩ := carries_of (P := P) (w := w) t
      obtain ⟨b1, b2⟩ := b
      exact ⟨(p.1, b2) :: rs, ⟨kV_is h.1, rfl, c⟩, .cons ⟨rfl, h.2⟩ q⟩
def tDisp (trs : List (TE × TE)) : TE := fun σ H Q => ∀ p, H p = none → tPairs trs σ (upd H p (.dK [])) fun ps H2 => H2 p = some (.dK []) ∧ ∃ kvs : List (Key × V), ps = kvs.map (fun kv => (kV kv.1, kv.2)) ∧ kvs.length ≤ 15 ∧ Q (.ref p) (upd H2 p (.dK (mergeK [] kvs)))
theorem pe_disp {X : Cx} {pos : Pos} {keys : List (Option Expr)} {values : List Expr} {trs : List (TE × TE)} (h : PPs X pos keys values trs) (hall : keys.all (·.isSome) = true) (hl : keys.length = values.length) (h0 : keys ≠ [])
    (h15 : keys.length ≤ 15) : PE X (.Dict keys values pos) (tDisp trs) := by
  intro pins s σ H Q I q
  have hn := I.hok.fresh (Nat.le_refl s.heap.objs.size)
  have I1 := I.laid (a := s.heap.objs.size) (o := .dK []) (h' := s.heap.push { cls := .type "dict", data := .dict #[] }) (t' := s.toks) (fun _ _ q => Heap.get?_push_of_some _ q) (Nat.le_refl _) (dk_empty s.heap I.big)
  refine wpAny_Dict_walk (knd := mixKind X.prog X.w) hall hl h0 h15 (thn (h pins _ σ _ _ I1 (q _ hn)) fun ws s2 ⟨ps, H2, I2, rel, e, kvs, ep, lk, q2⟩ => ?_)
  subst ep
  obtain ⟨rs, c, rk⟩ := carries_of (P := X.prog) (w := X.w) rel
  obtain ⟨z, hd, vs0, r0, dd⟩ := dk_of I2.hok e
  cases r0
  refine ⟨rs, c, dd, fun h' dd' hs => ⟨.ref s.heap.objs.size, _, ?_, rfl, q2⟩⟩
  have hz : (mergeK [] kvs).length ≤ sizeLine := by
    have h1 := length_mergeK kvs []
    rw [List.length_nil] at h1
    rw [sizeLine_eq]; omega
  have he : ∃ q, h'.get? s.heap.objs.size = some q := let ⟨q, _, _, hq, _⟩ := dd'; ⟨q, hq⟩
  exact d_write I2 (by rw [e]; exact True.intro) hs he (dk_new hz hd (rk.merge .nil) dd')
section
variable {X : Cx} {pins : List (Addr × Obj)} {σ : St} {H : Hp} {s : Shared} {a : Addr} {y d : V} {u r : Value} {o : Option V} {A : Around} {E : Value → Shared → Prop}
end
section
variable {X : Cx} {o e f : Expr} {apos cpos : Pos} {td ty tx : TE}
end
section
variable {X : Cx} {pins : List (Addr × Obj)} {σ : St} {H : Hp} {s : Shared} {a : Addr} {kvs : List (Key × V)} {A : Around} {E : Value → Shared → Prop}
end
section
variable {X : Cx} {pins : List (Addr × Obj)} {σ : St} {H : Hp} {s : Shared} {a : Addr} {y : V} {u : Value} {A : Around} {E : Value → Shared → Prop}
end
section
variable {X : Cx}
end
section
variable {κ : Type} [DecidableEq κ]
theorem valV_not {kvs : List (κ × V)} {k : κ} (h : valV kvs k = none) : ¬ k ∈ kvs.map (·.1) := by
  intro m
  obtain ⟨p, hp, e⟩ := List.mem_map.mp m
  have q : (kvs.any fun kv => decide (kv.1 = k)) = true := List.any_eq_true.mpr ⟨p, hp, decide_eq_true e⟩
  rw [valV_any, h] at q
  exact absurd q (by simp)
theorem valV_in {kvs : List (κ × V)} {k : κ} {v : V} (h : valV kvs k = some v) : k ∈ kvs.map (·.1) := by
  have q : (kvs.any fun kv => decide (kv.1 = k)) = true := by
    rw [valV_any, h]
    all_goals rfl
  obtain ⟨p, hp, e⟩ := List.any_eq_true.mp q
  exact List.mem_map.mpr ⟨p, hp, of_decide_eq_true e⟩
theorem nd_snoc : ∀ {l : List κ} {k : κ}, l.Nodup → ¬ k ∈ l → (l ++ [k]).Nodup
  | [], k, _, _ => by simp
  | a :: r, k, h, hk => by
    obtain ⟨h1, h2⟩ := List.nodup_cons.mp h
    show (a :: (r ++ [k])).Nodup
    refine List.nodup_cons.mpr ⟨fun m => ?_, nd_snoc h2 fun m => hk (List.mem_cons.mpr (Or.inr m))⟩
    rcases List.mem_append.mp m with q | q
    · exact h1 q
    · exact hk (List.mem_cons.mpr (Or.inl (List.mem_singleton.mp q).symm))
theorem nd_putK {kvs : List (κ × V)} {k : κ} (v : V) (hn : (kvs.map (·.1)).Nodup) (h : valV kvs k = none) : ((putK kvs k v).map (·.1)).Nodup := by
  rw [putK_new v h, List.map_append]
  exact nd_snoc hn (valV_not h)
end
end L2
set_option Elab.async false
set_option linter.all false
set_option maxRecDepth 100000
set_option maxHeartbeats 4000000
namespace L2
open PySem
def GI (mg : Str → Option Value) (x : Str) (n : Int) : Prop := ∃ t, mg x = some (.int n t)
theorem pe_gi {X : Cx} {x : Str} {n : Int} {pos : Pos} (hg : Gl X x) (h : GI X.mg x n) (hd : (x == ("__debug__" : Str)) = false := by decide) : PE X (.Name x pos) (tC (.int n)) := by
  obtain ⟨t, h⟩ := h
  exact pe_glob hg h ⟨t, rfl⟩ hd
theorem pe_tyn {X : Cx} {x : Str} {T : String} {pos : Pos} (hg : Gl X x) (hm : X.mg x = none) (hv : bootBuiltins x = some (.type T)) (hn : x ≠ "__name__" := by decide) (hd : (x == ("__debug__" : Str)) = false := by decide) : PE X (.Name x pos) (tC (.ty T)) := pe_bltn hg hm hv rfl hn hd
end L2
namespace KW
open PySem L2 Lin
def top (i : Nat) : Stmt := PySem.Challenge.pw_pagepart_k72_whole_no_way_puts_more.main.body.getD i (.Pass ⟨0, 0, 0, 0⟩)
abbrev sSign : Stmt := top 7
abbrev sWord : Stmt := top 8
abbrev sAre : Stmt := top 9
abbrev sRefuse : Stmt := top 10
abbrev sTaken : Stmt := top 11
abbrev sCellAt : Stmt := top 22
abbrev sTake : Stmt := top 23
abbrev sLw : Stmt := top 24
abbrev sLaw : Stmt := top 27
abbrev sWhole : Stmt := top 13
abbrev sLength : Stmt := top 14
abbrev sRoom : Stmt := top 16
abbrev sRefR : Stmt := top 17
abbrev sNar : Stmt := top 18
abbrev sOn : Stmt := top 19
abbrev sPour : Stmt := top 20
abbrev sRooms : Stmt := top 25
abbrev sReach : Stmt := top 26
theorem fresh {H : Hp} {p : Addr} {o : HO} {R : Hp → Prop} (hn : H p = none) (k : ∀ H1, Same H H1 → H1 p = some o → R H1) : R (upd H p o) :=
  k _ (fun b u e => by rw [upd_ne (ne_of_none e hn)]; exact e) upd_same
structure Callee (P : Program) (w : World) (K : PySem.W.Frag) (mg : Str → Option Value) (base : Heap) (CX : CXT) (k : Nat) (x : Str) (f : Addr) (fd : FuncData) (ps : List Str) (sp : Sp) : Prop where
  ok : FnOk P w K mg base CX k f fd ps sp
  bound : mg x = some (.ref f)
  kp : PySem.W.keepIn K (.ref f) = true
  bd : Binds K fd ps []
theorem at_map {ns : List Int} {k : Int} (h0 : 0 ≤ k) (h1 : k < ns.length) : atI (ns.map V.int) k = some (.int (ns.getD k.toNat 0)) := by
  obtain ⟨j, rfl⟩ := Int.eq_ofNat_of_zero_le h0
  refine atI_nat ?_
  rw [List.getElem?_map, List.getElem?_eq_getElem (by omega)]
  simp [List.getD, show j < ns.length by omega]
theorem same_upd {H H1 : Hp} {l : Addr} {o : HO} (S : Same H H1) (hn : H l = none) : Same H (upd H1 l o) := fun b u e => by
  rw [upd_ne (ne_of_none e hn)]
  exact S b u e
theorem same_new {H : Hp} {p : Addr} {o : HO} (hn : H p = none) : Same H (upd H p o) := fun b u e => by rw [upd_ne (ne_of_none e hn)]; exact e
theorem evl_neg1 {σ : St} {H : Hp} : Evl (tUn (rU fun i => V.int (-i)) (tC (V.int 1))) σ H (.int (-1)) := fun Q q => ⟨1, rfl, q⟩
def tx (ws : List W) : List V := ws.map fun w => V.str (txt w)
theorem tx_len (ws : List W) : (tx ws).length = ws.length := List.length_map _
theorem tx_get {ws : List W} {i : Nat} {w : W} (h : ws[i]? = some w) : (tx ws)[i]? = some (V.str (txt w)) := by
  unfold tx
  rw [List.getElem?_map, h]
  rfl
theorem tx_get' {ws : List W} {i : Nat} {x : V} (h : (tx ws)[i]? = some x) : ∃ w, ws[i]? = some w ∧ x = V.str (txt w) := by
  unfold tx at h
  rw [List.getElem?_map] at h
  cases e : ws[i]? with
  | none => rw [e] at h; cases h
  | some w => rw [e] at h; cases h; exact ⟨w, rfl, rfl⟩
theorem tx_snoc (ws : List W) (w : W) : tx ws ++ [V.str (txt w)] = tx (ws ++ [w]) := by
  unfold tx
  rw [List.map_append]
  rfl
def good (c : Nat) : Prop := 33 ≤ c ∧ c ≤ 126 ∧ c ≠ 37
def okW (w : W) : Prop := 1 ≤ w.length ∧ w.length ≤ 12 ∧ ∀ c ∈ w, good c
structure Nm (K : PySem.W.Frag) (mg : Str → Option Value) : Prop where
  gOUT : GI mg "LEFT_OUT" 37
  gMOST : GI mg "MOST_SIGNS" 12
  ti : mg "isinstance" = none
  tstr : mg "str" = none
  tlist : mg "list" = none
  tl : mg "len" = none
  tall : mg "all" = none
  tany : mg "any" = none
  tord : mg "ord" = none
  kNs : PySem.W.kitOne K (.type "NoneType") (.type "str") = some false
  kBs : PySem.W.kitOne K (.type "bool") (.type "str") = some false
  kIs : PySem.W.kitOne K (.type "int") (.type "str") = some false
  kLs : PySem.W.kitOne K (.type "list") (.type "str") = some false
  kTs : PySem.W.kitOne K (.type "tuple") (.type "str") = some false
  kDs : PySem.W.kitOne K (.type "dict") (.type "str") = some false
  kNl : PySem.W.kitOne K (.type "NoneType") (.type "list") = some false
  kSl : PySem.W.kitOne K (.type "str") (.type "list") = some false
  kIl : PySem.W.kitOne K (.type "int") (.type "list") = some false
  kTl : PySem.W.kitOne K (.type "tuple") (.type "list") = some false
  kDl : PySem.W.kitOne K (.type "dict") (.type "list") = some false
def isG (c : Nat) : Bool := decide (33 ≤ c) && (decide (c ≤ 126) && decide (c ≠ 37))
def isW (l : W) : Bool := decide (1 ≤ l.length) && (decide (l.length ≤ 12) && l.all isG)
theorem isG_iff {c : Nat} : isG c = true ↔ good c := by
  unfold isG good
  rw [Bool.and_eq_true, Bool.and_eq_true, decide_eq_true_eq, decide_eq_true_eq, decide_eq_true_eq]
theorem isW_iff {l : W} : isW l = true ↔ okW l := by
  unfold isW okW
  rw [Bool.and_eq_true, Bool.and_eq_true, decide_eq_true_eq, decide_eq_true_eq, List.all_eq_true]
  exact and_congr Iff.rfl (and_congr Iff.rfl ⟨fun h c hc => isG_iff.mp (h c hc), fun h c hc => isG_iff.mpr (h c hc)⟩)
inductive NoS (H : Hp) : V → Prop where
  | non : NoS H .non
  | bl (b : Bool) : NoS H (.bl b)
  | int (i : Int) : NoS H (.int i)
  | lst {a : Addr} {xs : List V} (e : H a = some (.lst xs)) : NoS H (.ref a)
  | tup {a : Addr} {xs : List V} (e : H a = some (.tup xs)) : NoS H (.ref a)
  | dK {a : Addr} {kvs : List (Key × V)} (e : H a = some (.dK kvs)) : NoS H (.ref a)
inductive NoL (H : Hp) : V → Prop where
  | non : NoL H .non
  | int (i : Int) : NoL H (.int i)
  | str (x : Str) : NoL H (.str x)
  | tup {a : Addr} {xs : List V} (e : H a = some (.tup xs)) : NoL H (.ref a)
  | dK {a : Addr} {kvs : List (Key × V)} (e : H a = some (.dK kvs)) : NoL H (.ref a)
theorem NoS.same {H H' : Hp} (S : Same H H') {x : V} (h : NoS H x) : NoS H' x := by
  cases h with
  | non => exact .non
  | bl b => exact .bl b
  | int i => exact .int i
  | lst e => exact .lst (S _ _ e)
  | tup e => exact .tup (S _ _ e)
  | dK e => exact .dK (S _ _ e)
theorem NoS.ty {K : PySem.W.Frag} {mg : Str → Option Value} (Z : Nm K mg) {H : Hp} {x : V} (h : NoS H x) : ∃ t, TyX K H x t ∧ PySem.W.kitOne K t (.type "str") = some false := by
  cases h with
  | non => exact ⟨_, .of .non, Z.kNs⟩
  | bl b => exact ⟨_, .of (.bl b), Z.kBs⟩
  | int i => exact ⟨_, .of (.int i), Z.kIs⟩
  | lst e => exact ⟨_, .of (.lst e), Z.kLs⟩
  | tup e => exact ⟨_, .of (.tup e), Z.kTs⟩
  | dK e => exact ⟨_, .of (.dK e), Z.kDs⟩
theorem NoL.ty {K : PySem.W.Frag} {mg : Str → Option Value} (Z : Nm K mg) {H : Hp} {x : V} (h : NoL H x) : ∃ t, TyX K H x t ∧ PySem.W.kitOne K t (.type "list") = some false := by
  cases h with
  | non => exact ⟨_, .of .non, Z.kNl⟩
  | int i => exact ⟨_, .of (.int i), Z.kIl⟩
  | str x => exact ⟨_, .of (.str x), Z.kSl⟩
  | tup e => exact ⟨_, .of (.tup e), Z.kTl⟩
  | dK e => exact ⟨_, .of (.dK e), Z.kDl⟩
def JW (H : Hp) (x : V) (b : Bool) : Prop := (∃ l : W, x = .str (txt l) ∧ (∀ c ∈ l, c < 128) ∧ l.length ≤ 1000 ∧ b = isW l) ∨ (b = false ∧ NoS H x)
theorem JW.same {H H' : Hp} (S : Same H H') {x : V} {b : Bool} (h : JW H x b) : JW H' x b := h.imp id fun h => ⟨h.1, h.2.same S⟩
def JWs (H : Hp) : List V → List Bool → Prop := Paired (JW H)
theorem JWs.len {H : Hp} {vs : List V} {bs : List Bool} (h : JWs H vs bs) : vs.length = bs.length := Paired.length h
theorem JWs.get {H : Hp} : ∀ {vs : List V} {bs : List Bool} {i : Nat} {v : V}, JWs H vs bs → vs[i]? = some v → ∃ b, bs[i]? = some b ∧ JW H v b
  | _, _, _, _, .nil, e => by simp at e
  | _, _, 0, _, .cons r _, e => by simp at e; subst e; exact ⟨_, rfl, r⟩
  | _, _, i + 1, v, .cons _ t, e => by
    obtain ⟨p, h1, h2⟩ := JWs.get (i := i) (v := v) t (by simpa using e)
    exact ⟨p, by simpa using h1, h2⟩
theorem jw_good {H : Hp} {u : W} (h : okW u) : JW H (.str (txt u)) true := .inl ⟨u, rfl, fun c hc => by
  have := h.2.2 c hc
  unfold good at this
  omega, by have := h.2.1; omega, (isW_iff.mpr h).symm⟩
theorem jws_good {H : Hp} : ∀ {ws : List W}, (∀ u ∈ ws, okW u) → JWs H (tx ws) (List.replicate ws.length true)
  | [], _ => .nil
  | u :: r, h => .cons (jw_good (h u List.mem_cons_self)) (jws_good (ws := r) fun v hv => h v (List.mem_cons_of_mem _ hv))
def Bad (H : Hp) (x : V) : Prop := (∃ (a : Addr) (xs : List V) (bs : List Bool), x = .ref a ∧ H a = some (.lst xs) ∧ JWs H xs bs ∧ xs.length ≤ 1000 ∧ bs.all id = false) ∨ NoL H x
def spSign : Sp := fun vs H Q _ => ∃ c : Nat, vs = [.str (txt [c])] ∧ Q (.bl (isG c)) H
def spWord : Sp := fun vs H Q _ => ∃ (x : V) (b : Bool), vs = [x] ∧ JW H x b ∧ ∀ H', Same H H' → Q (.bl b) H'
def spAre : Sp := fun vs H Q _ => ∃ x : V, vs = [x] ∧ ((∃ (a : Addr) (xs : List V) (bs : List Bool), x = .ref a ∧ H a = some (.lst xs) ∧ JWs H xs bs ∧ xs.length ≤ 1000 ∧ ∀ H', Same H H' → Q (.bl (bs.all id)) H') ∨ (NoL H x ∧ Q (.bl false) H))
def spRefuse (C : Addr) : Sp := fun vs H Q E => ∃ x : V, vs = [x] ∧ ((∃ (a : Addr) (ws : List W), x = .ref a ∧ H a = some (.lst (tx ws)) ∧ (∀ w ∈ ws, okW w) ∧ ws.length ≤ 1000 ∧ ∀ H', Same H H' → Q .non H') ∨ (Bad H x ∧ ∀ H', Same H H' → E (.ref C) none H'))
def spTaken : Sp := fun vs H Q _ => ∃ (a : Addr) (ws : List W) (wide : Int), vs = [.ref a, .int wide] ∧ H a = some (.lst (tx ws)) ∧ (∀ w ∈ ws, okW w) ∧ ws.length ≤ 1000 ∧
  ∀ (l : Addr) (H' : Hp), Same H H' → H l = none → H' l = some (.lst (tx (taken wide ws))) → Q (.ref l) H'
theorem lt_one (c d : Nat) : decide ((txt [c]).cps.toList < (txt [d]).cps.toList) = decide (c < d) := by
  rw [decide_eq_decide]
  show ([c] : List Nat) < [d] ↔ c < d
  rw [List.cons_lt_cons_iff]
  constructor
  · rintro (z | ⟨_, z⟩)
    · exact z
    · exact absurd z (List.not_lt_nil _)
  · exact .inl
section
variable {P : Program} {w : World} {K : PySem.W.Frag} {mg : Str → Option Value} {base : Heap}
theorem scSign : FnScope ["sign"] ["sign"] (defScope sSign) := ⟨rfl, rfl, rfl, by decide +kernel, rfl, by decide +kernel, by decide +kernel⟩
theorem ok_sign {f : Addr} {fd : FuncData} (F : Fun K "is_sign" "is_sign" sSign f fd) (Z : Nm K mg) : FnOk P w K mg base CX0 1 f fd ["sign"] spSign := by
  obtain ⟨gOUT, gMOST, ti, tstr, tlist, tl, tall, tany, tord, _, _, _, _, _, _, _, _, _, _, _⟩ := Z
  refine F.ok scSign (fun vs H Q E h => ?_) (fun cdv A outer s H vs Q E hr h => ?_)
  · obtain ⟨c, rfl, _⟩ := h
    rfl
  · obtain ⟨c, rfl, q⟩ := h
    refine ⟨_, (pss_one (ps_ret (pe_and (pe_chain op_le_str op_le_str pe_str (pv 0) pe_str) (pe_one (pe_cmpR op_ne (pe_callB call_ord (by rfl) tord PyProof.Rows.boot_ord (pa_cons (pv 0) pa_nil)) (pe_gi rfl gOUT) (nomark _)))))), ?_⟩
    have e1 : ("!" : Str) = txt [33] := by decide +kernel
    have e2 : ("~" : Str) = txt [126] := by decide +kernel
    refine ⟨_, rfl, _, _, rfl, rfl, _, rfl, ?_⟩
    have d1 : (!decide ((txt [c]).cps.toList < (("!" : Str)).cps.toList)) = decide (33 ≤ c) := by rw [e1, lt_one, ← decide_not, decide_eq_decide]; omega
    rw [d1]
    unfold isG at q
    by_cases c1 : 33 ≤ c
    · rw [decide_eq_true c1] at q ⊢
      refine iteT ⟨_, _, rfl, rfl, _, rfl, ?_⟩
      have d2 : (!decide ((("~" : Str)).cps.toList < (txt [c]).cps.toList)) = decide (c ≤ 126) := by rw [e2, lt_one, ← decide_not, decide_eq_decide]; omega
      rw [d2]
      by_cases c2 : c ≤ 126
      · rw [decide_eq_true c2] at q ⊢
        refine iteT ⟨_, rfl, _, rfl, rfl, rfl, ?_⟩
        have d3 : (!decide (V.int (((txt [c]).cps.getD 0 0 : Nat)) = V.int 37)) = decide (c ≠ 37) := by
          have : (txt [c]).cps.getD 0 0 = c := rfl
          rw [this, dec_int]
          by_cases h : c = 37
          · subst h; rfl
          · rw [decide_eq_true h]; simp; omega
        rw [d3]
        exact q
      · rw [decide_eq_false c2] at q ⊢
        exact iteF q
    · rw [decide_eq_false c1] at q ⊢
      exact iteF ⟨_, rfl, iteF q⟩
end
end KW
set_option Elab.async false
set_option linter.all false
set_option maxRecDepth 100000
set_option maxHeartbeats 4000000
namespace KW
open PySem L2 Lin
theorem taken_bound (wide : Int) (ws : List W) : (∀ w ∈ ws, w.length ≤ 12) → ∀ r ∈ taken wide ws, r.length ≤ 13 * ws.length :=
  snoc_ind (P := fun ws => (∀ w ∈ ws, w.length ≤ 12) → ∀ r ∈ taken wide ws, r.length ≤ 13 * ws.length) (fun _ r hr => (List.not_mem_nil hr).elim) (fun ws w ih h r hr => by
    have ih := ih fun v hv => h v (List.mem_append_left _ hv)
    have hw := h w (by simp)
    rw [taken_snoc] at hr
    rw [List.length_append, List.length_singleton]
    unfold put at hr
    split at hr
    · rename_i q e
      have hq := ih q (List.mem_of_getLast? e)
      split at hr
      · rcases List.mem_append.mp hr with m | m
        · have := ih r (List.dropLast_subset _ m)
          omega
        · rw [List.mem_singleton.mp m, List.length_append, List.length_cons]
          omega
      · rcases List.mem_append.mp hr with m | m
        · have := ih r m
          omega
        · rw [List.mem_singleton.mp m]
          omega
    · rw [List.mem_singleton.mp hr]
      omega) _ ws rfl
theorem set_last (us : List V) (v u : V) : ixN (us ++ [v]).length (-1) = some us.length ∧ (us ++ [v]).set us.length u = us ++ [u] := by
  refine ⟨?_, ?_⟩
  · unfold ixN
    rw [List.length_append, List.length_singleton, if_neg (by omega), if_pos (by omega)]
    congr 1
    omega
  · rw [List.set_append_right _ _ (Nat.le_refl _), Nat.sub_self]
    rfl
section
variable {P : Program} {w : World} {K : PySem.W.Frag} {mg : Str → Option Value} {base : Heap}
theorem scWord : FnScope ["thing"] ["thing"] (defScope sWord) := ⟨rfl, rfl, rfl, by decide +kernel, rfl, by decide +kernel, by decide +kernel⟩
theorem ok_word {f fS : Addr} {fd fdS : FuncData} (F : Fun K "is_word" "is_word" sWord f fd) (Z : Nm K mg) (Si : Callee P w K mg base CX0 1 "is_sign" fS fdS ["sign"] spSign) : FnOk P w K mg base CX0 2 f fd ["thing"] spWord := by
  have Z' := Z
  obtain ⟨gOUT, gMOST, ti, tstr, tlist, tl, tall, tany, tord, _, _, _, _, _, _, _, _, _, _, _⟩ := Z
  refine F.ok scWord (fun vs H Q E h => ?_) (fun cdv A outer s H vs Q E hr h => ?_)
  · obtain ⟨x, b, rfl, _⟩ := h
    rfl
  · obtain ⟨x, b, rfl, hJ, q⟩ := h
    refine ⟨_, (pss_cons (ps_if (PW.pt (pw_or (pt_not (pt_val (pe_callB call_isi (by rfl) ti PyProof.Rows.boot_isinstance (pa_cons (pv 0) (pa_cons (pe_tyn rfl tstr PyProof.Rows.boot_str) pa_nil))))) (pw_or1 (pt_not (pt_chain op_le op_le pe_int (pe_callB call_len_str (by rfl) tl PySem.boot_len (pa_cons (pv 0) pa_nil)) (pe_gi rfl gMOST))))))
      (pss_one (ps_ret pe_bl))
      pss_nil)
      (pss_one (ps_ret (pe_callB (call_allL rfl) (by rfl) tall PyProof.Rows.boot_all (pa_cons (pe_comp (Nc := ["sign"]) (ix := [none]) rfl rfl (by exact (pi_txt (pv 0))) (fun _ _ _ _ _ => (pg_name (i := 0) (by show (["sign"] : List Str).Nodup; decide +kernel) rfl (Or.inl rfl))) (fun _ _ _ _ _ => pts_nil) (fun _ _ _ _ _ => (pe_call Si.ok hr rfl Si.bound Si.kp Si.bd .nil pass0 (pa_cons (pv 0) pa_nil)))) pa_nil))))), ?_⟩
    rcases hJ with ⟨l, rfl, asc, l1000, rfl⟩ | ⟨rfl, ns⟩
    · refine ⟨_, rfl, _, _, _, _, rfl, rfl, .of (.str _), rfl, _, rfl, iteF ?_⟩
      refine ⟨_, rfl, txt l, rfl, (by rw [txt_len]; exact Nat.le_trans l1000 (by decide)), _, _, rfl, rfl, _, rfl, ?_⟩
      rw [txt_len]
      have q0 := q H (Same.refl _)
      unfold isW at q q0
      by_cases c1 : 1 ≤ l.length
      · rw [decide_eq_true c1] at q q0
        have d1 : decide ((1 : Int) ≤ (l.length : Nat)) = true := decide_eq_true (by omega)
        rw [d1]
        refine iteT ⟨_, _, rfl, rfl, _, rfl, ?_⟩
        by_cases c2 : l.length ≤ 12
        · rw [decide_eq_true c2] at q q0
          have d2 : decide (((l.length : Nat) : Int) ≤ 12) = true := decide_eq_true (by omega)
          rw [d2]
          refine iteF ?_
          refine ⟨_, rfl, l, rfl, asc, cmp_txt (l := l) (fun i ys σ H' => ys = ((l.take i).map isG).map V.bl ∧ H' = H ∧ ∃ o, σ = [o]) ⟨rfl, rfl, none, rfl⟩
            (fun i ys σ H' hi ⟨e, _⟩ => by rw [e, List.length_map, List.length_map, List.length_take]; exact Nat.le_trans (show _ ≤ 1000 by omega) (by decide)) ?_ ?_⟩
          · rintro ys σ H' ⟨e, rfl, _⟩ la nl
            rw [List.take_length] at e
            subst e
            refine ⟨la, l.map isG, rfl, SqL.of upd_same, ?_⟩
            rw [List.all_map]
            exact q _ (same_new nl)
          · rintro i c ys σ H' hx ⟨e, rfl, o, rfl⟩
            subst e
            obtain ⟨hil, ev⟩ := List.getElem?_eq_some_iff.mp hx
            dsimp only [gName, tYes]
            refine iteT ?_
            refine ⟨_, rfl, c, rfl, ?_, rfl, _, rfl⟩
            rw [← List.take_append_getElem hil, ev, List.map_append, List.map_append]
            rfl
        · rw [decide_eq_false c2] at q q0
          have d2 : decide (((l.length : Nat) : Int) ≤ 12) = false := decide_eq_false (by omega)
          rw [d2]
          exact iteT q0
      · rw [decide_eq_false c1] at q q0
        have d1 : decide ((1 : Int) ≤ (l.length : Nat)) = false := decide_eq_false (by omega)
        rw [d1]
        exact iteF ⟨_, rfl, iteT q0⟩
    · obtain ⟨t, ty, k⟩ := ns.ty Z'
      exact ⟨_, rfl, _, _, t, _, rfl, rfl, ty, k, _, rfl, iteT (iteT (q H (Same.refl _)))⟩
theorem scAre : FnScope ["things"] ["things"] (defScope sAre) := ⟨rfl, rfl, rfl, by decide +kernel, rfl, by decide +kernel, by decide +kernel⟩
theorem ok_are {f fS : Addr} {fd fdS : FuncData} (F : Fun K "are_words" "are_words" sAre f fd) (Z : Nm K mg) (Wo : Callee P w K mg base CX0 2 "is_word" fS fdS ["thing"] spWord) : FnOk P w K mg base CX0 3 f fd ["things"] spAre := by
  have Z' := Z
  obtain ⟨gOUT, gMOST, ti, tstr, tlist, tl, tall, tany, tord, _, _, _, _, _, _, _, _, _, _, _⟩ := Z
  refine F.ok scAre (fun vs H Q E h => ?_) (fun cdv A outer s H vs Q E hr h => ?_)
  · obtain ⟨x, rfl, _⟩ := h
    rfl
  · obtain ⟨x, rfl, h⟩ := h
    refine ⟨_, (pss_one (ps_ret (pe_and (pe_callB call_isi (by rfl) ti PyProof.Rows.boot_isinstance (pa_cons (pv 0) (pa_cons (pe_tyn rfl tlist PyProof.Rows.boot_list) pa_nil))) (pe_one (pe_callB (call_allL rfl) (by rfl) tall PyProof.Rows.boot_all (pa_cons (pe_comp (Nc := ["thing"]) (ix := [none]) rfl rfl (by refine' pi_list ?zz; case zz => exact (pv 0)) (fun _ _ _ _ _ => (pg_name (i := 0) (by show (["thing"] : List Str).Nodup; decide +kernel) rfl (Or.inl rfl))) (fun _ _ _ _ _ => pts_nil) (fun _ _ _ _ _ => (pe_call Wo.ok hr rfl Wo.bound Wo.kp Wo.bd .nil pass0 (pa_cons (pv 0) pa_nil)))) pa_nil)))))), ?_⟩
    rcases h with ⟨a, xs, bs, rfl, ha, hJ, hn, q⟩ | ⟨nl, q⟩
    · refine ⟨_, rfl, _, _, _, _, rfl, rfl, .of (.lst ha), rfl, _, rfl, iteT ?_⟩
      have lb := hJ.len
      refine ⟨_, rfl, a, rfl, ⟨_, SqL.of ha⟩, cmp_list (K := K) (a := a) (xs := xs) (fun i ys σ H' => ys = (bs.take i).map V.bl ∧ Same H H' ∧ ∃ o, σ = [o]) ⟨rfl, Same.refl _, none, rfl⟩
        (fun i ys σ H' hi ⟨e, S, _⟩ => ⟨by rw [e, List.length_map, List.length_take]; exact Nat.le_trans (show _ ≤ 1000 by omega) (by decide), SqL.of (S _ _ ha)⟩) ?_ ?_⟩
      · rintro ys σ H' ⟨e, S, _⟩ la nl
        rw [lb, List.take_length] at e
        subst e
        exact ⟨la, bs, rfl, SqL.of upd_same, q _ (S.trans (same_new nl))⟩
      · rintro i x ys σ H' hx ⟨e, S, o, rfl⟩
        subst e
        obtain ⟨b, eb, hj⟩ := hJ.get hx
        obtain ⟨hil, ev⟩ := List.getElem?_eq_some_iff.mp eb
        dsimp only [gName, tYes]
        refine iteT ?_
        refine ⟨_, rfl, x, b, rfl, hj.same S, fun H2 S2 => ⟨?_, S.trans S2, _, rfl⟩⟩
        rw [← List.take_append_getElem hil, ev, List.map_append]
        rfl
    · obtain ⟨t, ty, k⟩ := nl.ty Z'
      exact ⟨_, rfl, _, _, t, _, rfl, rfl, ty, k, _, rfl, iteF q⟩
theorem scRefuse : FnScope ["things"] ["things"] (defScope sRefuse) := ⟨rfl, rfl, rfl, by decide +kernel, rfl, by decide +kernel, by decide +kernel⟩
theorem ok_refuse {f fS C : Addr} {fd fdS : FuncData} (F : Fun K "refuse_no_words" "refuse_no_words" sRefuse f fd) (ex : Exc K mg "NoTexts" C) (Ar : Callee P w K mg base CX0 3 "are_words" fS fdS ["things"] spAre) : FnOk P w K mg base (CXE P w) 4 f fd ["things"] (spRefuse C) := by
  refine F.okE scRefuse (fun vs H Q E h => ?_) (fun cdv A outer s H vs Q E hr hh h => ?_)
  · obtain ⟨x, rfl, _⟩ := h
    rfl
  · obtain ⟨x, rfl, h⟩ := h
    refine ⟨_, (pss_one (ps_if (pt_not (pt_val (pe_call Ar.ok hr rfl Ar.bound Ar.kp Ar.bd .nil pass0 (pa_cons (pv 0) pa_nil))))
      (pss_one (ps_raise ex hh rfl (pa_cons pe_str pa_nil)))
      pss_nil)), ?_⟩
    rcases h with ⟨a, ws, rfl, ha, hw, hn, q⟩ | ⟨bad, qe⟩
    · refine ⟨_, rfl, _, rfl, .inl ⟨a, tx ws, _, rfl, ha, jws_good hw, by rw [tx_len]; exact hn, fun H' S => ⟨_, rfl, ?_⟩⟩⟩
      have e : (List.replicate ws.length true).all id = true := by simp
      rw [e]
      exact iteF (q H' S)
    · rcases bad with ⟨a, xs, bs, rfl, ha, hJ, hn, hb⟩ | nl
      · refine ⟨_, rfl, _, rfl, .inl ⟨a, xs, bs, rfl, ha, hJ, hn, fun H' S => ⟨_, rfl, ?_⟩⟩⟩
        rw [hb]
        exact iteT ⟨by show 1 ≤ sizeLine; decide, qe H' S⟩
      · exact ⟨_, rfl, _, rfl, .inr ⟨nl, _, rfl, iteT ⟨by show 1 ≤ sizeLine; decide, qe H (Same.refl _)⟩⟩⟩
theorem scTaken : FnScope ["words", "wide", "rows", "word"] ["words", "wide"] (defScope sTaken) := ⟨rfl, rfl, rfl, by decide +kernel, rfl, by decide +kernel, by decide +kernel⟩
theorem ok_taken {f : Addr} {fd : FuncData} (F : Fun K "taken" "taken" sTaken f fd) (tl : mg "len" = none) : FnOk P w K mg base CX0 1 f fd ["words", "wide"] spTaken := by
  refine F.ok scTaken (fun vs H Q E h => ?_) (fun cdv A outer s H vs Q E hr h => ?_)
  · obtain ⟨a, ws, wide, rfl, _⟩ := h
    rfl
  · obtain ⟨a, ws, wide, rfl, ha, hw, hn, q⟩ := h
    refine ⟨_, (pss_cons (ps_set (i := 2) scTaken.nd rfl (Or.inl rfl) (pe_lst pa_nil))
      (pss_cons (ps_for PassesOwn.never rfl (pi_list (pv 0)) (pg_name (i := 3) scTaken.nd rfl (Or.inl rfl))
      (pss_one (ps_if (PW.pt (pw_and (pt_truth (pv 2) (fun _ => rfl)) (pw_and1 (pt_cmpR op_le (pe_op op_add (pe_op op_add (pe_callB call_len_str (by rfl) tl PySem.boot_len (pa_cons (pe_ix ix_list (pv 2) (pe_un un_neg pe_int) (fun _ _ => rfl)) pa_nil)) pe_int) (pe_callB call_len_str (by rfl) tl PySem.boot_len (pa_cons (pv 3) pa_nil))) (pv 1) (nomark _)))))
        (pss_one (ps_asg (pe_op op_add_str (pe_op op_add_str (pe_ix ix_list (pv 2) (pe_un un_neg pe_int) (fun _ _ => rfl)) pe_str) (pv 3)) (pg_sub (pv 2) (pe_un un_neg pe_int) set_list)))
        (pss_one (ps_expr (pe_bm PySem.F.plainAttrs_list PySem.F.slot_list_append PySem.F.type_list_append mt_append (pv 2) (pa_cons (pv 3) pa_nil)))))))
      (pss_one (ps_ret (pv 2))))), ?_⟩
    refine ⟨by show 0 ≤ sizeLine; decide, fun l nl => ?_⟩
    refine fresh (R := fun H1 => _) nl fun H1 S1 h1 => ?_
    refine ⟨_, rfl, a, rfl, ⟨_, SqL.of (S1 _ _ ha)⟩, ?_⟩
    refine for_list (K := K) (a := a) (xs := tx ws) (fun i σ H2 => ∃ o : Option V, σ = [some (.ref a), some (.int wide), some (.ref l), o] ∧ Same H H2 ∧ H2 l = some (.lst (tx (taken wide (ws.take i)))))
      ⟨none, rfl, S1, h1⟩ (fun i σ H2 _ ⟨_, _, S, _⟩ => SqL.of (S _ _ ha)) ?_ ?_
    · rintro i x σ H2 hi ⟨o, rfl, S, hl⟩
      obtain ⟨v, hv, rfl⟩ := tx_get' hi
      obtain ⟨hil, ev⟩ := List.getElem?_eq_some_iff.mp hv
      have et : taken wide (ws.take (i + 1)) = put wide (taken wide (ws.take i)) v := by rw [← List.take_append_getElem hil, ev, taken_snoc]
      rw [et]
      have bd := taken_bound wide (ws.take i) fun u hu => (hw u (List.mem_of_mem_take hu)).2.1
      have lb := taken_len_le wide (ws.take i)
      rw [List.length_take] at bd lb
      have vb := (hw v (List.mem_of_getElem? hv)).2.1
      generalize taken wide (ws.take i) = rows at hl bd lb ⊢
      refine run_gname ?_
      unfold put
      cases el : rows.getLast? with
      | none =>
        have e' : rows = [] := List.getLast?_eq_none_iff.mp el
        subst e'
        refine ⟨_, rfl, false, .inl ⟨[], SqL.of hl, rfl⟩, iteF ?_⟩
        exact ⟨_, rfl, .inl ⟨rfl, _, SqL.of hl⟩, _, rfl, l, _, _, rfl, rfl, hl, by show 0 < sizeLine; decide, _, rfl, same_upd S nl, by rw [upd_same]; rfl⟩
      | some r =>
        have sp := last_split el
        have rb := bd r (List.mem_of_getLast? el)
        have ers : tx rows = tx rows.dropLast ++ [V.str (txt r)] := by
          conv => lhs; rw [sp]
          rw [tx_snoc]
        have hl2 : H2 l = some (.lst (tx rows.dropLast ++ [V.str (txt r)])) := by rw [← ers]; exact hl
        have ea : atI (tx rows.dropLast ++ [V.str (txt r)]) (-1) = some (V.str (txt r)) := atI_last _ _
        have rs : r.length ≤ 100000 := by omega
        refine ⟨_, rfl, true, .inl ⟨_, SqL.of hl2, by simp⟩, iteT ?_⟩
        refine tst_of (p := (r.length : Int) + 1 + v.length ≤ wide) (evl_I0 (evl_I0 (evl_I0 (evl_lenS (evl_ixL (evl_var rfl) evl_neg1 (SqL.of hl2) ea) (by omega)) evl_c) (evl_lenS (evl_var rfl) (by omega))) (evl_var rfl)) _ ?_
        dsimp only
        refine ite2 (fun c => ?_) (fun c => ?_)
        · have c := of_decide_eq_true c
          rw [if_pos c]
          have sl := set_last (tx rows.dropLast) (V.str (txt r)) (V.str (txt (r ++ 32 :: v)))
          refine evl_addS (w := v) (evl_addS (w := [32]) (evl_ixL (evl_var rfl) evl_neg1 (SqL.of hl2) ea) evl_c (by simp; omega)) (evl_var rfl) (by simp; omega) _ ?_
          refine ⟨_, rfl, _, rfl, l, _, _, _, rfl, rfl, hl2, sl.1, ?_⟩
          refine ⟨_, rfl, same_upd S nl, ?_⟩
          rw [upd_same]
          have e2 : r ++ [32] ++ v = r ++ 32 :: v := by simp
          rw [e2, sl.2, tx_snoc]
        · have c : ¬ (r.length : Int) + 1 + v.length ≤ wide := fun z => c (decide_eq_true z)
          rw [if_neg c]
          refine ⟨_, rfl, .inl ⟨rfl, _, SqL.of hl⟩, _, rfl, l, _, _, rfl, rfl, hl, ?_, _, rfl, same_upd S nl, by rw [upd_same, tx_snoc]⟩
          rw [tx_len]
          exact Nat.lt_of_le_of_lt (show rows.length ≤ 1000 by omega) (by decide)
    · rintro σ H2 ⟨o, rfl, S, hl⟩
      rw [tx_len, List.take_length] at hl
      exact ⟨_, rfl, q l H2 S nl hl⟩
end
end KW
set_option Elab.async false
set_option linter.all false
set_option maxRecDepth 100000
set_option maxHeartbeats 4000000
namespace KW
open PySem L2 Lin
def spCellAt (K : PySem.W.Frag) : Sp := fun vs H Q _ => ∃ (a : Addr) (ns : List Int) (k : Int), vs = [.ref a, .int k] ∧ SqL K H a (ns.map V.int) ∧ 0 ≤ k ∧ ∀ n : Int, Q (.int n) H
def deck (a b c : Int) : HO := .lst [.int a, .int b, .int c]
def spTake : Sp := fun vs H Q _ => ∃ (p : Addr) (a b c many : Int), vs = [.ref p, .int many] ∧ H p = some (deck a b c) ∧ 0 < many ∧ many < 1073741824 ∧ 0 ≤ c ∧ c ≤ 100000 ∧
  ∀ n a' c' : Int, 0 ≤ n → n < many → 0 ≤ c' → c' ≤ c + 1 → Q (.int n) (upd H p (deck a' b c'))
def spLw : Sp := fun vs H Q _ => ∃ (cell way : Int), vs = [.int cell, .int way] ∧ ∀ (l : W) (H' : Hp), Same H H' → okW l → Q (.str (txt l)) H'
def signs : List Nat := (List.range 94).filterMap fun i => if i + 33 = 37 then none else some (i + 33)
theorem signs_len : signs.length = 93 := by decide +kernel
theorem signs_good : ∀ c ∈ signs, good c := by
  intro c hc
  unfold signs at hc
  obtain ⟨i, hi, e⟩ := List.mem_filterMap.mp hc
  rw [List.mem_range] at hi
  split at e
  · cases e
  · cases e
    exact ⟨by omega, by omega, by assumption⟩
section
variable {P : Program} {w : World} {K : PySem.W.Frag} {mg : Str → Option Value} {base : Heap}
theorem scCellAt : FnScope ["script", "k"] ["script", "k"] (defScope sCellAt) := ⟨rfl, rfl, rfl, by decide +kernel, rfl, by decide +kernel, by decide +kernel⟩
theorem ok_cellAt {f : Addr} {fd : FuncData} (F : Fun K "_law_cell_at" "_law_cell_at" sCellAt f fd) (tl : mg "len" = none) : FnOk P w K mg base CX0 1 f fd ["script", "k"] (spCellAt K) := by
  refine F.ok scCellAt (fun vs H Q E h => ?_) (fun cdv A outer s H vs Q E hr h => ?_)
  · obtain ⟨a, ns, k, rfl, _⟩ := h
    rfl
  · obtain ⟨a, ns, k, rfl, hS, k1, q⟩ := h
    refine ⟨_, (pss_cons (ps_if (pt_cmpR op_lt (pv 1) (pe_callB call_len_seq (by rfl) tl PySem.boot_len (pa_cons (pv 0) pa_nil)) (nomark _))
      (pss_one (ps_ret (pe_ix ix_list (pv 0) (pv 1) (fun _ _ => rfl))))
      pss_nil)
      (pss_one (ps_ret pe_int))), ?_⟩
    refine ⟨_, rfl, _, rfl, _, _, rfl, .inl hS, _, _, rfl, rfl, _, rfl, ?_⟩
    rw [List.length_map]
    refine ite2 (fun c1 => ?_) (fun c1 => ?_)
    · have c1 := of_decide_eq_true c1
      exact ⟨_, rfl, _, rfl, _, _, _, _, rfl, rfl, hS, at_map k1 c1, q _⟩
    · exact q _
theorem scTake : FnScope ["deck", "many", "found", "number"] ["deck", "many"] (defScope sTake) := ⟨rfl, rfl, rfl, by decide +kernel, rfl, by decide +kernel, by decide +kernel⟩
theorem ok_take {f : Addr} {fd : FuncData} (F : Fun K "_law_take" "_law_take" sTake f fd) : FnOk P w K mg base CX0 1 f fd ["deck", "many"] spTake := by
  refine F.ok scTake (fun vs H Q E h => ?_) (fun cdv A outer s H vs Q E hr h => ?_)
  · obtain ⟨p, a, b, c, many, rfl, _⟩ := h
    rfl
  · obtain ⟨p, a, b, c, many, rfl, hp, m1, m2, c1, c2, q⟩ := h
    refine ⟨_, (pss_cons (ps_if (pt_cmpR op_eq (pe_ix ix_list (pv 0) pe_int (fun _ _ => rfl)) pe_int (nomark _))
      (pss_cons (ps_set (i := 2) scTake.nd rfl (Or.inl rfl) (pe_op op_mod (pe_ix ix_list (pv 0) pe_int (fun _ _ => rfl)) (pv 1)))
        (pss_cons (ps_asg (pe_op op_fdiv (pe_ix ix_list (pv 0) pe_int (fun _ _ => rfl)) (pv 1)) (pg_sub (pv 0) pe_int set_list))
        (pss_one (ps_ret (pv 2)))))
      pss_nil)
      (pss_cons (ps_asg (pe_op op_add (pe_ix ix_list (pv 0) pe_int (fun _ _ => rfl)) pe_int) (pg_sub (pv 0) pe_int set_list))
      (pss_cons (ps_set (i := 3) scTake.nd rfl (Or.inl rfl) (pe_op op_mod (pe_op op_add (pe_op op_mul (pe_op op_mod (pe_ix ix_list (pv 0) pe_int (fun _ _ => rfl)) pe_int) (pe_op op_add (pe_op op_mul (pe_ix ix_list (pv 0) pe_int (fun _ _ => rfl)) (pe_ix ix_list (pv 0) pe_int (fun _ _ => rfl))) pe_int)) (pe_ix ix_list (pv 0) pe_int (fun _ _ => rfl))) pe_int))
      (pss_cons (ps_set (i := 3) scTake.nd rfl (Or.inl rfl) (pe_op op_mod (pe_op op_mul (pv 3) (pv 3)) pe_int))
      (pss_one (ps_ret (pe_op op_mod (pe_op op_fdiv (pe_op op_mod (pe_op op_mul (pv 3) pe_int) pe_int) pe_int) (pv 1)))))))), ?_⟩
    have hL : ∀ {H : Hp} {a b c : Int}, H p = some (deck a b c) → SqL K H p [.int a, .int b, .int c] := fun h => SqL.of h
    refine seq_if (p := b = 0) (tst_of (evl_eqI (evl_ixL (evl_var rfl) evl_c (hL hp) rfl) evl_c)) (fun z => ?_) (fun z => ?_)
    · refine seq_asg (evl_I (evl_ixL (evl_var rfl) evl_c (hL hp) rfl) (evl_var rfl) m1) ?_
      refine evl_I (evl_ixL (evl_var rfl) evl_c (hL hp) rfl) (evl_var rfl) ⟨m1, m2⟩ _ ?_
      refine ⟨_, rfl, p, _, _, _, rfl, rfl, hp, rfl, ?_⟩
      exact ⟨_, rfl, q (a % many) (a / many) c (Int.emod_nonneg _ (by omega)) (Int.emod_lt_of_pos _ m1) c1 (by omega)⟩
    · refine run_next ?_
      dsimp only
      refine evl_I0 (evl_ixL (evl_var rfl) evl_c (hL hp) rfl) evl_c _ ?_
      refine ⟨_, rfl, p, _, _, _, rfl, rfl, hp, rfl, ?_⟩
      generalize hH2 : upd H p (HO.lst ([V.int a, V.int b, V.int c].set (Int.toNat 2) (V.int (c + 1)))) = H2
      have hp2 : H2 p = some (deck a b (c + 1)) := by rw [← hH2]; exact upd_same
      have q2 : ∀ n : Int, 0 ≤ n → n < many → Q (.int n) H2 := fun n n1 n2 => by rw [← hH2]; exact q n a (c + 1) n1 n2 (by omega) (by omega)
      have a0 := Int.emod_nonneg a (show (2147483647 : Int) ≠ 0 by decide)
      have a1 := Int.emod_lt_of_pos a (show (0 : Int) < 2147483647 by decide)
      have hL2 := hL hp2
      try dsimp only
      refine' seq_asg (v := .int ((a % 2147483647 * ((c + 1) * (c + 1) + 48271) + (c + 1)) % 2147483629)) ?_ ?_
      · exact evl_I (evl_I0 (evl_I (evl_I (evl_ixL (evl_var rfl) evl_c hL2 rfl) evl_c (by show (0 : Int) < 2147483647; decide)) (evl_I0 (evl_I (evl_ixL (evl_var rfl) evl_c hL2 rfl) (evl_ixL (evl_var rfl) evl_c hL2 rfl) (Or.inl ⟨by omega, by omega⟩)) evl_c) (Or.inl ⟨by omega, by omega⟩)) (evl_ixL (evl_var rfl) evl_c hL2 rfl)) evl_c (by show (0 : Int) < 2147483629; decide)
      generalize (a % 2147483647 * ((c + 1) * (c + 1) + 48271) + (c + 1)) = u
      have u0 := Int.emod_nonneg u (show (2147483629 : Int) ≠ 0 by decide)
      have u1 := Int.emod_lt_of_pos u (show (0 : Int) < 2147483629 by decide)
      refine' seq_asg (v := .int (u % 2147483629 * (u % 2147483629) % 2147483587)) ?_ ?_
      · exact evl_I (evl_I (evl_var rfl) (evl_var rfl) (Or.inl ⟨by omega, by omega⟩)) evl_c (by show (0 : Int) < 2147483587; decide)
      generalize u % 2147483629 * (u % 2147483629) = v
      have v0 := Int.emod_nonneg v (show (2147483587 : Int) ≠ 0 by decide)
      have v1 := Int.emod_lt_of_pos v (show (0 : Int) < 2147483587 by decide)
      refine' run_ret (v := .int (v % 2147483587 * 69621 % 2147483563 / 3 % many)) ?_ ?_
      · exact evl_I (evl_I (evl_I (evl_I (evl_var rfl) evl_c (Or.inl ⟨by omega, by omega⟩)) evl_c (by show (0 : Int) < 2147483563; decide)) evl_c ⟨by decide, by decide⟩) (evl_var rfl) m1
      exact q2 _ (Int.emod_nonneg _ (by omega)) (Int.emod_lt_of_pos _ m1)
theorem scLw : FnScope ["cell", "way", "some", "deck", "most", "word", "j"] ["cell", "way"] (defScope sLw) := ⟨rfl, rfl, rfl, by decide +kernel, rfl, by decide +kernel, by decide +kernel⟩
theorem ok_lw {f fT : Addr} {fd fdT : FuncData} (F : Fun K "_law_word" "_law_word" sLw f fd) (tr : mg "range" = none) (Tk : Callee P w K mg base CX0 1 "_law_take" fT fdT ["deck", "many"] spTake) : FnOk P w K mg base CX0 2 f fd ["cell", "way"] spLw := by
  refine F.ok scLw (fun vs H Q E h => ?_) (fun cdv A outer s H vs Q E hr h => ?_)
  · obtain ⟨cell, way, rfl, _⟩ := h
    rfl
  · obtain ⟨cell, way, rfl, q⟩ := h
    refine ⟨_, (pss_cons (ps_set (i := 2) scLw.nd rfl (Or.inl rfl) pe_str)
      (pss_cons (ps_set (i := 3) scLw.nd rfl (Or.inl rfl) (pe_lst (pa_cons (pv 0) (pa_cons (pv 1) (pa_cons pe_int pa_nil)))))
      (pss_cons (ps_set (i := 4) scLw.nd rfl (Or.inl rfl) (pe_ix ix_list (pe_lst (pa_cons pe_int (pa_cons pe_int (pa_cons pe_int pa_nil)))) (pe_call Tk.ok hr rfl Tk.bound Tk.kp Tk.bd .nil pass0 (pa_cons (pv 3) (pa_cons pe_int pa_nil))) (fun _ _ => rfl)))
      (pss_cons (ps_set (i := 5) scLw.nd rfl (Or.inl rfl) pe_str)
      (pss_cons (ps_for PassesOwn.never rfl (pi_range1 rfl tr (pa_cons (pe_op op_add pe_int (pe_call Tk.ok hr rfl Tk.bound Tk.kp Tk.bd .nil pass0 (pa_cons (pv 3) (pa_cons (pv 4) pa_nil)))) pa_nil)) (pg_name (i := 6) scLw.nd rfl (Or.inl rfl))
      (pss_one (ps_set (i := 5) scLw.nd rfl (Or.inl rfl) (pe_op op_add_str (pv 5) (pe_ix ix_sign (pv 2) (pe_call Tk.ok hr rfl Tk.bound Tk.kp Tk.bd .nil pass0 (pa_cons (pv 3) (pa_cons pe_int pa_nil))) (fun _ _ => rfl))))))
      (pss_one (ps_ret (pv 5)))))))), ?_⟩
    have es : ("!\"#$&'()*+,-./0123456789:;<=>?@ABCDEFGHIJKLMNOPQRSTUVWXYZ[\\]^_`abcdefghijklmnopqrstuvwxyz{|}~" : Str) = txt signs := by decide +kernel
    have e0 : ("" : Str) = txt [] := by decide +kernel
    refine ⟨_, rfl, _, rfl, by show 3 ≤ sizeLine; decide, fun p np => ?_⟩
    have S1 := same_new (o := .lst [.int cell, .int way, .int 0]) np
    have hp1 : (upd H p (.lst [.int cell, .int way, .int 0])) p = some (deck cell way 0) := upd_same
    generalize upd H p (.lst [.int cell, .int way, .int 0]) = H1 at S1 hp1
    refine ⟨by show 3 ≤ sizeLine; decide, fun p2 np2 => ?_⟩
    have S2 := same_new (o := .lst [.int 3, .int 6, .int 12]) np2
    have hp2 : (upd H1 p2 (.lst [.int 3, .int 6, .int 12])) p2 = some (.lst [.int 3, .int 6, .int 12]) := upd_same
    have hp := S2 _ _ hp1
    have n2 : p2 ≠ p := fun z => by rw [z] at np2; rw [np2] at hp1; cases hp1
    generalize upd H1 p2 (.lst [.int 3, .int 6, .int 12]) = H2 at S2 hp2 hp
    refine ⟨_, rfl, p, cell, way, 0, 3, rfl, hp, by decide, by decide, by decide, by decide, fun n a' c' n0 n3 c0 c1 => ?_⟩
    obtain ⟨m, em, m0, m1⟩ : ∃ m : Int, atI [V.int 3, .int 6, .int 12] n = some (.int m) ∧ 3 ≤ m ∧ m ≤ 12 := by
      rcases (show n = 0 ∨ n = 1 ∨ n = 2 by omega) with e | e | e <;> subst e
      · exact ⟨3, rfl, by decide, by decide⟩
      · exact ⟨6, rfl, by decide, by decide⟩
      · exact ⟨12, rfl, by decide, by decide⟩
    refine ⟨p2, _, _, _, rfl, rfl, SqL.of (by rw [upd_ne n2]; exact hp2), em, ?_⟩
    have S12 := S1.trans S2
    have np' : H p = none := np
    have S3 : Same H (upd H2 p (deck a' way c')) := same_upd S12 np'
    have hp3 : (upd H2 p (deck a' way c')) p = some (deck a' way c') := upd_same
    generalize upd H2 p (deck a' way c') = H3 at S3 hp3
    refine ⟨_, rfl, _, rfl, p, a', way, c', m, rfl, hp3, by omega, by omega, by omega, by omega, fun k a2 c2 k0 k1 d0 d1 => ?_⟩
    obtain ⟨N, hN⟩ : ∃ N : Nat, (1 : Int) + k = N := ⟨(1 + k).toNat, by omega⟩
    have S4 : Same H (upd H3 p (deck a2 way c2)) := same_upd S3 np'
    have hp4 : (upd H3 p (deck a2 way c2)) p = some (deck a2 way c2) := upd_same
    generalize upd H3 p (deck a2 way c2) = H4 at S4 hp4
    refine ⟨_, _, rfl, rfl, _, rfl, by omega, by omega, ?_⟩
    rw [hN]
    refine for_range (lo := 0) (n := N) (fun i σ H5 => ∃ (l : W) (o : Option V) (a c : Int), σ = [some (.int cell), some (.int way), some (.str (txt signs)), some (.ref p), some (.int m), some (.str (txt l)), o] ∧ Same H H5 ∧ H5 p = some (deck a way c) ∧ 0 ≤ c ∧ c ≤ 2 + i ∧ l.length = i ∧ ∀ x ∈ l, good x)
      ⟨[], none, a2, c2, by rw [← es, ← e0]; rfl, S4, hp4, d0, by omega, rfl, fun x hx => (List.not_mem_nil hx).elim⟩ ?_ ?_
    · rintro i σ H5 hi ⟨l, o, a, c, rfl, S5, hp5, c0, c1, ll, lg⟩
      refine run_gname ?_
      refine ⟨_, rfl, _, rfl, _, rfl, p, a, way, c, 93, rfl, hp5, by decide, by decide, by omega, by omega, fun n a3 c3 n0 n1 z0 z1 => ?_⟩
      have hn : n.toNat < signs.length := by rw [signs_len]; omega
      have en : atI signs n = some signs[n.toNat] := by
        have z : atI signs ((n.toNat : Nat) : Int) = some signs[n.toNat] := atI_nat (List.getElem?_eq_getElem hn)
        rwa [show ((n.toNat : Nat) : Int) = n by omega] at z
      refine ⟨signs, n, signs[n.toNat], rfl, rfl, by rw [signs_len]; decide, en, ?_⟩
      refine ⟨_, _, rfl, rfl, ?_, ?_⟩
      · rw [txt_len, txt_len]
        exact Nat.le_trans (show l.length + 1 ≤ 100 by omega) (by decide)
      · rw [txt_app]
        refine ⟨l ++ [signs[n.toNat]], _, a3, c3, rfl, same_upd S5 np', upd_same, z0, by omega, by rw [List.length_append, ll]; rfl, fun x hx => ?_⟩
        rcases List.mem_append.mp hx with z | z
        · exact lg x z
        · rw [List.mem_singleton.mp z]
          exact signs_good _ (List.getElem_mem hn)
    · rintro σ H5 ⟨l, o, a, c, rfl, S5, hp5, c0, c1, ll, lg⟩
      exact ⟨_, rfl, q l H5 S5 ⟨by omega, by omega, lg⟩⟩
end
end KW
set_option Elab.async false
set_option linter.all false
namespace Lin
def nar (wide : Int) : List W → List W
  | [] => []
  | w :: r => if (w.length : Int) ≤ wide then w :: nar wide r else []
def fit (wide : Int) : Int → List W → Nat
  | _, [] => 0
  | u, w :: r => if u + 1 + w.length ≤ wide then fit wide (u + 1 + w.length) r + 1 else 0
def lns (wide : Int) : Nat → List W → List (List W)
  | 0, _ => []
  | h + 1, ws => if fit wide (-1) ws = 0 then [] else ws.take (fit wide (-1) ws) :: lns wide h (ws.drop (fit wide (-1) ws))
def used (wide : Int) (h : Nat) (ws : List W) : Nat := (lns wide h ws).flatten.length
theorem fit_le {wide : Int} : ∀ {u : Int} {ws : List W}, fit wide u ws ≤ ws.length
  | _, [] => Nat.le_refl _
  | u, w :: r => by
    unfold fit
    split
    · exact Nat.succ_le_succ fit_le
    · exact Nat.zero_le _
theorem nar_le {wide : Int} : ∀ (ws : List W), ∀ w ∈ nar wide ws, (w.length : Int) ≤ wide
  | [], w, h => (List.not_mem_nil h).elim
  | v :: r, w, h => by
    unfold nar at h
    split at h
    · rcases List.mem_cons.mp h with e | e
      · rw [e]; assumption
      · exact nar_le r w e
    · exact (List.not_mem_nil h).elim
theorem nar_all {wide : Int} : ∀ {ws : List W}, (∀ w ∈ ws, (w.length : Int) ≤ wide) → nar wide ws = ws
  | [], _ => rfl
  | w :: r, h => by
    unfold nar
    rw [if_pos (h w List.mem_cons_self), nar_all fun v hv => h v (List.mem_cons_of_mem _ hv)]
theorem nar_take {wide : Int} : ∀ {ws : List W} {k : Nat}, (∀ w ∈ ws.take k, (w.length : Int) ≤ wide) → (∀ w, ws[k]? = some w → wide < (w.length : Int)) → nar wide ws = ws.take k
  | [], k, _, _ => by rw [List.take_nil]; rfl
  | w :: r, 0, _, h => by
    unfold nar
    rw [if_neg (by have := h w rfl; omega)]
    rfl
  | w :: r, k + 1, h1, h2 => by
    unfold nar
    rw [if_pos (h1 w (by rw [List.take_succ_cons]; exact List.mem_cons_self)), List.take_succ_cons, nar_take (k := k) (fun v hv => h1 v (by rw [List.take_succ_cons]; exact List.mem_cons_of_mem _ hv)) (fun v hv => h2 v hv)]
theorem fold_pre (wide : Int) : ∀ (ws : List W) (R : List (List W)) (g : List W), ws.foldl (putG wide) (R ++ [g]) = R ++ ws.foldl (putG wide) [g]
  | [], R, g => rfl
  | w :: r, R, g => by
    show r.foldl (putG wide) (putG wide (R ++ [g]) w) = R ++ r.foldl (putG wide) (putG wide [g] w)
    have e := putG_last wide [] g w
    rw [List.nil_append, List.nil_append] at e
    rw [putG_last, e]
    split
    · exact fold_pre wide r R (g ++ [w])
    · rw [fold_pre wide r (R ++ [g]) [w], fold_pre wide r [g] [w], List.append_assoc]
theorem fold_line (wide : Int) : ∀ (ws : List W) (g : List W), g ≠ [] →
    (nar wide ws).foldl (putG wide) [g] = (g ++ ws.take (fit wide ((glue g).length : Int) ws)) :: grp wide (nar wide (ws.drop (fit wide ((glue g).length : Int) ws)))
  | [], g, _ => by
    show [g] = [g ++ []]
    rw [List.append_nil]
  | w :: r, g, hg => by
    by_cases c : ((glue g).length : Int) + 1 + w.length ≤ wide
    · have ef : fit wide ((glue g).length : Int) (w :: r) = fit wide ((glue (g ++ [w])).length : Int) r + 1 := by
        conv => lhs; unfold fit
        rw [if_pos c, glue_snoc _ _ hg, List.length_append, List.length_cons]
        congr 2
        omega
      have en : nar wide (w :: r) = w :: nar wide r := by
        conv => lhs; unfold nar
        rw [if_pos (by omega)]
      have e := putG_last wide [] g w
      rw [List.nil_append, List.nil_append, if_pos c] at e
      rw [en, ef, List.take_succ_cons, List.drop_succ_cons]
      show (nar wide r).foldl (putG wide) (putG wide [g] w) = _
      rw [e, fold_line wide r (g ++ [w]) (by simp), List.append_assoc]
      rfl
    · have ef : fit wide ((glue g).length : Int) (w :: r) = 0 := by
        conv => lhs; unfold fit
        rw [if_neg c]
      rw [ef, List.take_zero, List.drop_zero, List.append_nil]
      by_cases d : (w.length : Int) ≤ wide
      · have en : nar wide (w :: r) = w :: nar wide r := by
          conv => lhs; unfold nar
          rw [if_pos d]
        have e := putG_last wide [] g w
        rw [List.nil_append, List.nil_append, if_neg c] at e
        rw [en]
        show (nar wide r).foldl (putG wide) (putG wide [g] w) = g :: (nar wide r).foldl (putG wide) [[w]]
        rw [e, fold_pre]
        rfl
      · have en : nar wide (w :: r) = [] := by
          conv => lhs; unfold nar
          rw [if_neg d]
        rw [en]
        rfl
theorem grp_line {wide : Int} : ∀ {ws : List W}, fit wide (-1) ws ≠ 0 → grp wide (nar wide ws) = ws.take (fit wide (-1) ws) :: grp wide (nar wide (ws.drop (fit wide (-1) ws)))
  | [], h => absurd rfl h
  | w :: r, h => by
    have c : (w.length : Int) ≤ wide := by
      apply Classical.byContradiction
      intro z
      apply h
      unfold fit
      rw [if_neg (by omega)]
    have ef : fit wide (-1) (w :: r) = fit wide ((glue [w]).length : Int) r + 1 := by
      conv => lhs; unfold fit
      rw [if_pos (by omega)]
      congr 2
      show (-1 : Int) + 1 + (w.length : Int) = (w.length : Int)
      omega
    have en : nar wide (w :: r) = w :: nar wide r := by
      conv => lhs; unfold nar
      rw [if_pos c]
    rw [en, ef, List.take_succ_cons, List.drop_succ_cons]
    show (nar wide r).foldl (putG wide) [[w]] = _
    rw [fold_line wide r [w] (by simp)]
    rfl
theorem nar_nil {wide : Int} : ∀ {ws : List W}, fit wide (-1) ws = 0 → nar wide ws = []
  | [], _ => rfl
  | w :: r, h => by
    unfold nar
    rw [if_neg]
    intro z
    unfold fit at h
    rw [if_pos (by omega)] at h
    exact absurd h (Nat.succ_ne_zero _)
theorem lns_eq {wide : Int} : ∀ (h : Nat) (ws : List W), (grp wide (nar wide ws)).take h = lns wide h ws
  | 0, ws => rfl
  | h + 1, ws => by
    unfold lns
    split
    · rename_i z
      rw [nar_nil z]
      rfl
    · rename_i z
      rw [grp_line z, List.take_succ_cons, lns_eq h]
theorem lns_taken (wide : Int) (h : Nat) (ws : List W) : (taken wide (nar wide ws)).take h = (lns wide h ws).map glue := by
  rw [← lns_eq, List.map_take, grp_glue]
theorem lns_ne {wide : Int} : ∀ {h : Nat} {ws : List W}, ∀ g ∈ lns wide h ws, g ≠ []
  | 0, _, g, hg => (List.not_mem_nil hg).elim
  | h + 1, ws, g, hg => by
    unfold lns at hg
    split at hg
    · exact (List.not_mem_nil hg).elim
    · rename_i z
      rcases List.mem_cons.mp hg with e | e
      · rw [e]
        intro y
        have := congrArg List.length y
        rw [List.length_take, List.length_nil] at this
        have := fit_le (wide := wide) (u := -1) (ws := ws)
        omega
      · exact lns_ne g e
theorem lns_len {wide : Int} : ∀ {h : Nat} {ws : List W}, (lns wide h ws).length ≤ h
  | 0, _ => Nat.le_refl _
  | h + 1, ws => by
    unfold lns
    split
    · exact Nat.zero_le _
    · exact Nat.succ_le_succ lns_len
theorem used_zero (wide : Int) (ws : List W) : used wide 0 ws = 0 := rfl
theorem used_succ (wide : Int) (h : Nat) (ws : List W) : used wide (h + 1) ws = fit wide (-1) ws + used wide h (ws.drop (fit wide (-1) ws)) := by
  conv => lhs; unfold used lns
  split
  · rename_i z
    rw [z, List.drop_zero]
    have : lns wide h ws = [] := by
      cases h with
      | zero => rfl
      | succ h => unfold lns; rw [if_pos z]
    unfold used
    rw [this]
    rfl
  · rw [List.flatten_cons, List.length_append, List.length_take, Nat.min_eq_left fit_le]
    rfl
theorem used_le {wide : Int} : ∀ {h : Nat} {ws : List W}, used wide h ws ≤ ws.length
  | 0, _ => Nat.zero_le _
  | h + 1, ws => by
    rw [used_succ]
    have := used_le (wide := wide) (h := h) (ws := ws.drop (fit wide (-1) ws))
    have := fit_le (wide := wide) (u := -1) (ws := ws)
    rw [List.length_drop] at *
    omega
theorem used_fit0 {wide : Int} {h : Nat} {ws : List W} (z : fit wide (-1) ws = 0) : used wide h ws = 0 := by
  cases h with
  | zero => rfl
  | succ h => unfold used lns; rw [if_pos z]; rfl
theorem used_mono {wide : Int} : ∀ {h : Nat} {ws : List W}, used wide h ws ≤ used wide (h + 1) ws
  | 0, _ => Nat.zero_le _
  | h + 1, ws => by
    rw [used_succ, used_succ (h := h + 1)]
    exact Nat.add_le_add_left used_mono _
theorem lns_flat {wide : Int} : ∀ {h : Nat} {ws : List W}, (lns wide h ws).flatten = ws.take (used wide h ws)
  | 0, ws => rfl
  | h + 1, ws => by
    rw [used_succ]
    conv => lhs; unfold lns
    split
    · rename_i z
      rw [z, List.drop_zero, used_fit0 z]
      rfl
    · rw [List.flatten_cons, lns_flat, List.take_add]
theorem lns_add {wide : Int} : ∀ (a b : Nat) (ws : List W), lns wide (a + b) ws = lns wide a ws ++ lns wide b (ws.drop (used wide a ws))
  | 0, b, ws => by
    rw [Nat.zero_add, used_zero, List.drop_zero]
    rfl
  | a + 1, b, ws => by
    rw [Nat.succ_add, used_succ]
    by_cases z : fit wide (-1) ws = 0
    · have e0 : ∀ n, lns wide n ws = [] := fun n => by
        cases n with
        | zero => rfl
        | succ n => unfold lns; rw [if_pos z]
      rw [z, List.drop_zero, used_fit0 z, List.drop_zero, e0, e0, e0]
      rfl
    · have e1 : ∀ n, lns wide (n + 1) ws = ws.take (fit wide (-1) ws) :: lns wide n (ws.drop (fit wide (-1) ws)) := fun n => by
        conv => lhs; unfold lns
        rw [if_neg z]
      rw [show (a + b).succ = (a + b) + 1 from rfl, e1, e1, lns_add a b, List.drop_drop, List.cons_append]
theorem used_add (wide : Int) (a b : Nat) (ws : List W) : used wide (a + b) ws = used wide a ws + used wide b (ws.drop (used wide a ws)) := by
  conv => lhs; unfold used
  rw [lns_add, List.flatten_append, List.length_append]
  rfl
end Lin
set_option Elab.async false
set_option linter.all false
set_option maxRecDepth 100000
namespace Tre
open PySem L2
inductive T where
  | non | bl (b : Bool) | int (i : Int) | str (x : Str) | tup (ts : List T) | lst | dic
mutual
def sz : T → Nat
  | .tup ts => 1 + szL ts
  | .non => 1
  | .bl _ => 1
  | .int _ => 1
  | .str _ => 1
  | .lst => 1
  | .dic => 1
def szL : List T → Nat
  | [] => 0
  | t :: r => sz t + szL r
end
end Tre
set_option Elab.async false
set_option linter.all false
set_option maxRecDepth 100000
namespace L2
open PySem PySem.Spec PyProof.Rows PySem.W
section
variable {X : Cx}
theorem call_intB : CallR X (.type "int") (fun xs H Q => ∃ b : Bool, xs = [.bl b] ∧ Q (.int (if b then 1 else 0)) H) := by
  intro pins s σ H xs us Q I r h
  obtain ⟨b, rfl, q⟩ := h
  obtain ⟨u, rfl, rfl⟩ := vals1 r
  exact call_int_bool ⟨.int (if b then 1 else 0), H, I.tok _, ⟨_, rfl⟩, q⟩
theorem pe_bmK {K : PySem.W.Frag} {o e : Expr} {es : List Expr} {to : TE} {t : TA} {name : Str} {apos cpos : Pos} {T id : String} {r : V → List V → Hp → VK → Prop} (hK : X.K = K) (pa : PlainAttrs T) (slot : Slot T name id) (hty : typeOf (.builtin id) = pure (.type "method_descriptor")) (hm : MtR X id r) (ho : PE X o to) (ha : PA X (e :: es) t)
    (hbase : attributeBase o name X.env (eval o X.env) = eval o X.env := by rfl)
    (hfew : ((backTo cpos (starEach (e :: es) X.env)).all (fun x => !x.1) && (backToKw cpos (keywordEach [] X.env)).all (fun x => x.1.isSome)
      && decide ((e :: es).length + ([] : List Keyword).length + (if ([] : List Keyword).isEmpty then 0 else 1) < 30)) = true := by rfl)
    (hline : (apos.endLine == cpos.line) = true := by rfl) (hs : starEach (e :: es) X.env = (false, eval e X.env) :: starEach es X.env := by rfl) (hplain : (backTo cpos (starEach es X.env)).any (·.1) = false := by rfl) :
    PE X (.Call (.Attribute o name apos) (e :: es) [] cpos) (tBM K T r to t) := by
  subst hK
  exact pe_bm pa slot hty hm ho ha hbase hfew hline hs hplain
end
section
variable {X : Cx} {es : List Expr} {te : TE} {t : TA}
end
section
variable {X : Cx} {es : List Expr} {te : TE} {t : TA}
end
theorem cutV_drop (xs : List V) (k : Nat) (h : k ≤ xs.length) : cutV xs (some (k : Int)) none = xs.drop k := by
  unfold cutV
  rw [HT.sIx_none, HT.sIx_nat, Nat.min_eq_left h]
  exact List.take_of_length_le (by rw [List.length_drop]; exact Nat.le_refl _)
end L2
set_option Elab.async false
set_option linter.all false
set_option maxRecDepth 100000
set_option maxHeartbeats 1000000
namespace KW
open PySem L2 Lin PySem.W
open Tre (T)
mutual
inductive At (H : Hp) : V → T → Prop where
  | non : At H .non .non
  | bl (b : Bool) : At H (.bl b) (.bl b)
  | int (i : Int) : At H (.int i) (.int i)
  | str (x : Str) : At H (.str x) (.str x)
  | tup {a : Addr} {vs : List V} {ts : List T} (e : H a = some (.tup vs)) (h : AtL H vs ts) : At H (.ref a) (.tup ts)
  | lst {a : Addr} {vs : List V} (e : H a = some (.lst vs)) : At H (.ref a) .lst
  | dic {a : Addr} {kvs : List (Key × V)} (e : H a = some (.dK kvs)) : At H (.ref a) .dic
inductive AtL (H : Hp) : List V → List T → Prop where
  | nil : AtL H [] []
  | cons {v : V} {t : T} {vs : List V} {ts : List T} (h : At H v t) (r : AtL H vs ts) : AtL H (v :: vs) (t :: ts)
end
mutual
theorem At.same {H H' : Hp} (S : Same H H') : ∀ {v : V} {t : T}, At H v t → At H' v t
  | _, _, .non => .non
  | _, _, .bl b => .bl b
  | _, _, .int i => .int i
  | _, _, .str x => .str x
  | _, _, .tup e h => .tup (S _ _ e) (AtL.same S h)
  | _, _, .lst e => .lst (S _ _ e)
  | _, _, .dic e => .dic (S _ _ e)
theorem AtL.same {H H' : Hp} (S : Same H H') : ∀ {vs : List V} {ts : List T}, AtL H vs ts → AtL H' vs ts
  | _, _, .nil => .nil
  | _, _, .cons h r => .cons (At.same S h) (AtL.same S r)
end
theorem AtL.len {H : Hp} : ∀ {vs : List V} {ts : List T}, AtL H vs ts → vs.length = ts.length
  | _, _, .nil => rfl
  | _, _, .cons _ r => by rw [List.length_cons, List.length_cons, r.len]
theorem AtL.get {H : Hp} : ∀ {vs : List V} {ts : List T} {i : Nat} {v : V}, AtL H vs ts → vs[i]? = some v → ∃ t, ts[i]? = some t ∧ At H v t
  | _, _, _, _, .nil, e => by simp at e
  | _, _, 0, _, .cons h _, e => by simp at e; subst e; exact ⟨_, rfl, h⟩
  | _, _, i + 1, v, .cons _ r, e => by
    obtain ⟨t, h1, h2⟩ := AtL.get (i := i) (v := v) r (by simpa using e)
    exact ⟨t, by simpa using h1, h2⟩
theorem AtL.app {H : Hp} : ∀ {vs us : List V} {ts ss : List T}, AtL H vs ts → AtL H us ss → AtL H (vs ++ us) (ts ++ ss)
  | _, _, _, _, .nil, s => s
  | _, _, _, _, .cons h r, s => .cons h (AtL.app r s)
def tyT : T → Value
  | .non => .type "NoneType"
  | .bl _ => .type "bool"
  | .int _ => .type "int"
  | .str _ => .type "str"
  | .tup _ => .type "tuple"
  | .lst => .type "list"
  | .dic => .type "dict"
theorem At.ty {K : PySem.W.Frag} {H : Hp} {v : V} {t : T} (h : At H v t) : TyX K H v (tyT t) := by
  cases h with
  | non => exact .of .non
  | bl b => exact .of (.bl b)
  | int i => exact .of (.int i)
  | str x => exact .of (.str x)
  | tup e _ => exact .of (.tup e)
  | lst e => exact .of (.lst e)
  | dic e => exact .of (.dK e)
def isI : T → Bool
  | .int _ => true
  | _ => false
def isIB : T → Bool
  | .int _ => true
  | .bl _ => true
  | _ => false
def isBl : T → Bool
  | .bl _ => true
  | _ => false
def isTp : T → Bool
  | .tup _ => true
  | _ => false
def isLs : T → Bool
  | .lst => true
  | _ => false
structure Nr (K : PySem.W.Frag) (mg : Str → Option Value) : Prop where
  ti : mg "isinstance" = none
  tint : mg "int" = none
  tbool : mg "bool" = none
  ttup : mg "tuple" = none
  tlist : mg "list" = none
  tl : mg "len" = none
  tall : mg "all" = none
  tany : mg "any" = none
  tsum : mg "sum" = none
  te : mg "enumerate" = none
  kI : ∀ t, kitOne K (tyT t) (.type "int") = some (isIB t)
  kB : ∀ t, kitOne K (tyT t) (.type "bool") = some (isBl t)
  kT : ∀ t, kitOne K (tyT t) (.type "tuple") = some (isTp t)
  kL : ∀ t, kitOne K (tyT t) (.type "list") = some (isLs t)
def lenB : T → Bool
  | .int i => decide (1 ≤ i)
  | _ => false
def roomB : T → Bool
  | .tup ts => decide (ts.length = 2) && ts.all lenB
  | _ => false
def small : T → Prop
  | .tup ts => ts.length ≤ 1000
  | _ => True
abbrev Rm := Int × Int
def rT (r : Rm) : T := .tup [.int r.1, .int r.2]
def okR (r : Rm) : Prop := 1 ≤ r.1 ∧ 1 ≤ r.2
theorem rT_small (r : Rm) : small (rT r) := by show 2 ≤ 1000; decide
theorem room_rT {r : Rm} (h : okR r) : roomB (rT r) = true := by
  show (true && (decide (1 ≤ r.1) && (decide (1 ≤ r.2) && true))) = true
  rw [decide_eq_true h.1, decide_eq_true h.2]
  rfl
def GoodR (H : Hp) (x : V) (rs : List Rm) : Prop := ∃ (a : Addr) (xs : List V), x = .ref a ∧ H a = some (.lst xs) ∧ AtL H xs (rs.map rT) ∧ (∀ r ∈ rs, okR r) ∧ rs.length ≤ 1000
theorem GoodR.same {H H' : Hp} {x : V} {rs : List Rm} (S : Same H H') : GoodR H x rs → GoodR H' x rs
  | ⟨a, xs, e, h1, h2, h3, h4⟩ => ⟨a, xs, e, S _ _ h1, h2.same S, h3, h4⟩
def BadR (H : Hp) (x : V) : Prop := (∃ (a : Addr) (xs : List V) (ts : List T), x = .ref a ∧ H a = some (.lst xs) ∧ AtL H xs ts ∧ (∀ t ∈ ts, small t) ∧ xs.length ≤ 1000 ∧ ts.all roomB = false) ∨ ∃ t, At H x t ∧ isLs t = false
theorem BadR.same {H H' : Hp} {x : V} (S : Same H H') : BadR H x → BadR H' x
  | .inl ⟨a, xs, ts, e, h1, h2, h3⟩ => .inl ⟨a, xs, ts, e, S _ _ h1, h2.same S, h3⟩
  | .inr ⟨t, h1, h2⟩ => .inr ⟨t, h1.same S, h2⟩
def step (ws : List W) (p : List (List (List W)) × Nat) (r : Rm) : List (List (List W)) × Nat := (p.1 ++ [lns r.1 r.2.toNat (ws.drop p.2)], p.2 + used r.1 r.2.toNat (ws.drop p.2))
def pour (ws : List W) (rs : List Rm) : List (List (List W)) × Nat := rs.foldl (step ws) ([], 0)
theorem pour_snoc (ws : List W) (rs : List Rm) (r : Rm) : pour ws (rs ++ [r]) = step ws (pour ws rs) r := by
  unfold pour
  rw [List.foldl_append]
  rfl
theorem fold_le (ws : List W) : ∀ (rs : List Rm) (p : List (List (List W)) × Nat), p.2 ≤ ws.length → (rs.foldl (step ws) p).2 ≤ ws.length
  | [], p, h => h
  | r :: rs, p, h => fold_le ws rs _ (by
    show p.2 + used r.1 r.2.toNat (ws.drop p.2) ≤ ws.length
    have := used_le (wide := r.1) (h := r.2.toNat) (ws := ws.drop p.2)
    rw [List.length_drop] at this
    omega)
theorem pour_le (ws : List W) (rs : List Rm) : (pour ws rs).2 ≤ ws.length := fold_le ws rs _ (Nat.zero_le _)
def Rs (H : Hp) : List Addr → List (List (List W)) → Prop := Paired fun p gs => H p = some (.lst (tx (gs.map glue)))
theorem Rs.same {H H' : Hp} (S : Same H H') : ∀ {ps : List Addr} {gs : List (List (List W))}, Rs H ps gs → Rs H' ps gs
  | _, _, .nil => .nil
  | _, _, .cons h t => .cons (S _ _ h) (Rs.same S t)
theorem Rs.but {H : Hp} {l : Addr} {o : HO} : ∀ {ps : List Addr} {gs : List (List (List W))}, l ∉ ps → Rs H ps gs → Rs (upd H l o) ps gs
  | _, _, _, .nil => .nil
  | p :: ps, _, n, .cons h t => .cons (by rw [upd_ne (fun z => n (by rw [z]; exact List.mem_cons_self))]; exact h) (Rs.but (fun z => n (List.mem_cons_of_mem _ z)) t)
theorem Rs.has {H : Hp} {p : Addr} : ∀ {ps : List Addr} {gs : List (List (List W))}, Rs H ps gs → p ∈ ps → ∃ g : List (List W), H p = some (.lst (tx (g.map glue)))
  | _, _, .cons (b := g) h t, m => by
    rcases List.mem_cons.mp m with e | e
    · exact ⟨g, by rw [e]; exact h⟩
    · exact Rs.has t e
theorem Rs.snoc {H : Hp} {p : Addr} {g : List (List W)} (hp : H p = some (.lst (tx (g.map glue)))) : ∀ {ps : List Addr} {gs : List (List (List W))}, Rs H ps gs → Rs H (ps ++ [p]) (gs ++ [g])
  | _, _, .nil => .cons hp .nil
  | _, _, .cons h t => .cons h (Rs.snoc hp t)
def refs (ps : List Addr) : List V := ps.map V.ref
theorem refs_snoc (ps : List Addr) (p : Addr) : refs ps ++ [V.ref p] = refs (ps ++ [p]) := by
  unfold refs
  rw [List.map_append]
  rfl
theorem cutV_takeI (xs : List V) (k : Int) (h : 0 ≤ k) : cutV xs none (some k) = xs.take k.toNat := by
  obtain ⟨j, rfl⟩ := Int.eq_ofNat_of_zero_le h
  unfold cutV
  rw [HT.sIx_none, HT.sIx_nat, List.drop_zero, Nat.sub_zero]
  show xs.take (min j xs.length) = xs.take j
  rcases Nat.le_total j xs.length with z | z
  · rw [Nat.min_eq_left z]
  · rw [Nat.min_eq_right z, List.take_of_length_le z, List.take_length]
theorem tx_takeN (ws : List W) (k : Nat) : (tx ws).take k = tx (ws.take k) := by unfold tx; rw [← List.map_take]
theorem tx_dropN (ws : List W) (k : Nat) : (tx ws).drop k = tx (ws.drop k) := by unfold tx; rw [← List.map_drop]
theorem cutV_tx_drop (ws : List W) (k : Nat) (h : k ≤ ws.length) : cutV (tx ws) (some (k : Int)) none = tx (ws.drop k) := by
  rw [cutV_drop _ _ (by rw [tx_len]; exact h), tx_dropN]
theorem mem_nar {wide : Int} : ∀ {ws : List W} {u : W}, u ∈ nar wide ws → u ∈ ws
  | w :: r, u, h => by
    unfold nar at h
    split at h
    · rcases List.mem_cons.mp h with e | e
      · rw [e]; exact List.mem_cons_self
      · exact List.mem_cons_of_mem _ (mem_nar e)
    · exact (List.not_mem_nil h).elim
theorem nar_len {wide : Int} : ∀ {ws : List W}, (nar wide ws).length ≤ ws.length
  | [] => Nat.le_refl _
  | w :: r => by
    unfold nar
    split
    · exact Nat.succ_le_succ nar_len
    · exact Nat.zero_le _
theorem glue_ge : ∀ g : List W, (∀ u ∈ g, 1 ≤ u.length) → g.length ≤ (glue g).length
  | [], _ => Nat.le_refl _
  | [a], h => h a List.mem_cons_self
  | a :: b :: r, h => by
    have ih := glue_ge (b :: r) fun u hu => h u (List.mem_cons_of_mem _ hu)
    show (b :: r).length + 1 ≤ (a ++ 32 :: glue (b :: r)).length
    rw [List.length_append, List.length_cons (a := 32)]
    omega
def spWhole : Sp := fun vs H Q _ => ∃ (x : V) (t : T), vs = [x] ∧ At H x t ∧ Q (.bl (isI t)) H
def spLength : Sp := fun vs H Q _ => ∃ (x : V) (t : T), vs = [x] ∧ At H x t ∧ Q (.bl (lenB t)) H
def spRoom : Sp := fun vs H Q _ => ∃ (x : V) (t : T), vs = [x] ∧ At H x t ∧ small t ∧ ∀ H', Same H H' → Q (.bl (roomB t)) H'
def spRefR (C : Addr) : Sp := fun vs H Q E => ∃ x : V, vs = [x] ∧ (((∃ rs, GoodR H x rs) ∧ ∀ H', Same H H' → Q .non H') ∨ (BadR H x ∧ ∀ H', Same H H' → E (.ref C) none H'))
def spNar : Sp := fun vs H Q _ => ∃ (a : Addr) (ws : List W) (wide : Int), vs = [.ref a, .int wide] ∧ H a = some (.lst (tx ws)) ∧ (∀ u ∈ ws, okW u) ∧ ws.length ≤ 1000 ∧
  ∀ (l : Addr) (H' : Hp), Same H H' → H' l = some (.lst (tx (nar wide ws))) → Q (.ref l) H'
def spOn : Sp := fun vs H Q _ => ∃ (a : Addr) (gs : List (List W)), vs = [.ref a] ∧ H a = some (.lst (tx (gs.map glue))) ∧ (∀ g ∈ gs, g ≠ [] ∧ ∀ u ∈ g, okW u) ∧ (∀ g ∈ gs, (glue g).length ≤ 100000) ∧ gs.length ≤ 1000 ∧ ∀ H', Same H H' → Q (.int (gs.flatten.length : Nat)) H'
def spPour (CT CN : Addr) : Sp := fun vs H Q E => ∃ x y : V, vs = [x, y] ∧
  ((∃ (a : Addr) (ws : List W), x = .ref a ∧ H a = some (.lst (tx ws)) ∧ (∀ u ∈ ws, okW u) ∧ ws.length ≤ 1000 ∧
    ((∃ rs, GoodR H y rs ∧ ∀ (t lf ll : Addr) (ps : List Addr) (H' : Hp), Same H H' → (lf :: ll :: ps).Nodup → (∀ p ∈ lf :: ll :: ps, H p = none) → H' t = some (.tup [.ref lf, .ref ll]) → H' lf = some (.lst (refs ps)) → H' ll = some (.lst (tx (ws.drop (pour ws rs).2))) →
      Rs H' ps (pour ws rs).1 → Q (.ref t) H') ∨ (BadR H y ∧ ∀ H', Same H H' → E (.ref CN) none H'))) ∨
  (Bad H x ∧ ∀ H', Same H H' → E (.ref CT) none H'))
section
variable {P : Program} {w : World} {K : PySem.W.Frag} {mg : Str → Option Value} {base : Heap}
theorem scWhole : FnScope ["thing"] ["thing"] (defScope sWhole) := ⟨rfl, rfl, rfl, by decide +kernel, rfl, by decide +kernel, by decide +kernel⟩
theorem ok_whole {f : Addr} {fd : FuncData} (F : Fun K "is_whole" "is_whole" sWhole f fd) (Z : Nr K mg) : FnOk P w K mg base CX0 1 f fd ["thing"] spWhole := by
  obtain ⟨ti, tint, tbool, ttup, tlist, tl, tall, tany, tsum, te, kI, kB, kT, kL⟩ := Z
  refine F.ok scWhole (fun vs H Q E h => ?_) (fun cdv A outer s H vs Q E hr h => ?_)
  · obtain ⟨x, t, rfl, _⟩ := h
    rfl
  · obtain ⟨x, t, rfl, hA, q⟩ := h
    refine ⟨_, (pss_one (ps_ret (pe_and (pe_callB call_isi (by rfl) ti PyProof.Rows.boot_isinstance (pa_cons (pv 0) (pa_cons (pe_tyn rfl tint PyProof.Rows.boot_int) pa_nil))) (pe_one (pe_not (pe_callB call_isi (by rfl) ti PyProof.Rows.boot_isinstance (pa_cons (pv 0) (pa_cons (pe_tyn rfl tbool PyProof.Rows.boot_bool) pa_nil)))))))), ?_⟩
    refine ⟨_, rfl, _, _, _, _, rfl, rfl, hA.ty, kI t, _, rfl, ?_⟩
    have e : isI t = (isIB t && !isBl t) := by cases t <;> rfl
    rw [e] at q
    cases h1 : isIB t with
    | false =>
      rw [h1] at q
      exact iteF q
    | true =>
      rw [h1] at q
      exact iteT ⟨_, rfl, _, _, _, _, rfl, rfl, hA.ty, kB t, _, rfl, q⟩
theorem scLength : FnScope ["thing"] ["thing"] (defScope sLength) := ⟨rfl, rfl, rfl, by decide +kernel, rfl, by decide +kernel, by decide +kernel⟩
theorem ok_length {f fW : Addr} {fd fdW : FuncData} (F : Fun K "is_length" "is_length" sLength f fd) (Wh : Callee P w K mg base CX0 1 "is_whole" fW fdW ["thing"] spWhole) : FnOk P w K mg base CX0 2 f fd ["thing"] spLength := by
  refine F.ok scLength (fun vs H Q E h => ?_) (fun cdv A outer s H vs Q E hr h => ?_)
  · obtain ⟨x, t, rfl, _⟩ := h
    rfl
  · obtain ⟨x, t, rfl, hA, q⟩ := h
    refine ⟨_, (pss_one (ps_ret (pe_and (pe_call Wh.ok hr rfl Wh.bound Wh.kp Wh.bd .nil pass0 (pa_cons (pv 0) pa_nil)) (pe_one (pe_cmpR op_ge (pv 0) pe_int (nomark _)))))), ?_⟩
    refine ⟨_, rfl, x, t, rfl, hA, _, rfl, ?_⟩
    cases hA with
    | int i => exact iteT (evl_I0 (evl_var rfl) evl_c _ q)
    | non => exact iteF q
    | bl b => exact iteF q
    | str x => exact iteF q
    | lst e => exact iteF q
    | dic e => exact iteF q
    | tup e h => exact iteF q
theorem scRoom : FnScope ["thing"] ["thing"] (defScope sRoom) := ⟨rfl, rfl, rfl, by decide +kernel, rfl, by decide +kernel, by decide +kernel⟩
theorem ok_room {f fL : Addr} {fd fdL : FuncData} (F : Fun K "is_room" "is_room" sRoom f fd) (Z : Nr K mg) (Le : Callee P w K mg base CX0 2 "is_length" fL fdL ["thing"] spLength) : FnOk P w K mg base CX0 3 f fd ["thing"] spRoom := by
  obtain ⟨ti, tint, tbool, ttup, tlist, tl, tall, tany, tsum, te, kI, kB, kT, kL⟩ := Z
  refine F.ok scRoom (fun vs H Q E h => ?_) (fun cdv A outer s H vs Q E hr h => ?_)
  · obtain ⟨x, t, rfl, _⟩ := h
    rfl
  · obtain ⟨x, t, rfl, hA, sm, q⟩ := h
    refine ⟨_, (pss_one (ps_ret (pe_and (pe_callB call_isi (by rfl) ti PyProof.Rows.boot_isinstance (pa_cons (pv 0) (pa_cons (pe_tyn rfl ttup PyProof.Rows.boot_tuple) pa_nil))) (pe_and (pe_cmpR op_eq (pe_callB call_len_seq (by rfl) tl PySem.boot_len (pa_cons (pv 0) pa_nil)) pe_int (nomark _)) (pe_one (pe_callB (call_allL rfl) (by rfl) tall PyProof.Rows.boot_all (pa_cons (pe_comp (Nc := ["part"]) (ix := [none]) rfl rfl (by exact (pi_tup (pv 0))) (fun _ _ _ _ _ => (pg_name (i := 0) (by show (["part"] : List Str).Nodup; decide +kernel) rfl (Or.inl rfl))) (fun _ _ _ _ _ => pts_nil) (fun _ _ _ _ _ => (pe_call Le.ok hr rfl Le.bound Le.kp Le.bd .nil pass0 (pa_cons (pv 0) pa_nil)))) pa_nil))))))), ?_⟩
    refine ⟨_, rfl, _, _, _, _, rfl, rfl, hA.ty, kT t, _, rfl, ?_⟩
    have q0 := q H (Same.refl _)
    cases hA with
    | int i => exact iteF q0
    | non => exact iteF q0
    | bl b => exact iteF q0
    | str x => exact iteF q0
    | lst e => exact iteF q0
    | dic e => exact iteF q0
    | @tup a us ss e hL =>
      have ln := hL.len
      have sm : ss.length ≤ 1000 := sm
      refine iteT ⟨_, rfl, _, _, rfl, .inr (SqT.of e), rfl, _, rfl, ?_⟩
      have d : decide (V.int ((us.length : Nat) : Int) = V.int 2) = decide (ss.length = 2) := by
        rw [dec_int, Bool.eq_iff_iff, beq_iff_eq, decide_eq_true_eq]
        omega
      rw [d]
      have q : ∀ H', Same H H' → Q (.bl (decide (ss.length = 2) && ss.all lenB)) H' := q
      by_cases h2 : ss.length = 2
      · rw [decide_eq_true h2] at q ⊢
        refine iteT ?_
        refine ⟨_, rfl, a, rfl, ⟨_, SqT.of e⟩, cmp_tup (K := K) (a := a) (xs := us) (fun i ys σ H' => ys = ((ss.take i).map lenB).map V.bl ∧ H' = H ∧ ∃ o, σ = [o]) ⟨rfl, rfl, none, rfl⟩
            (fun i ys σ H' hi ⟨e1, e3, _⟩ => ⟨by rw [e1, List.length_map, List.length_map, List.length_take]; exact Nat.le_trans (show _ ≤ 1000000 by omega) (by decide), by rw [e3]; exact SqT.of e⟩) ?_ ?_⟩
        · rintro ys σ H' ⟨e3, rfl, _⟩ la nl
          rw [ln, List.take_length] at e3
          subst e3
          refine ⟨la, ss.map lenB, rfl, SqL.of upd_same, ?_⟩
          rw [List.all_map]
          exact q _ (same_new nl)
        · rintro i x ys σ H' hx ⟨e3, rfl, o, rfl⟩
          subst e3
          obtain ⟨p, ep, hAp⟩ := hL.get hx
          obtain ⟨hil, ev⟩ := List.getElem?_eq_some_iff.mp ep
          dsimp only [gName, tYes]
          refine iteT ?_
          refine ⟨_, rfl, x, p, rfl, hAp, ?_, rfl, _, rfl⟩
          rw [← List.take_append_getElem hil, ev, List.map_append, List.map_append]
          rfl
      · rw [decide_eq_false h2] at q ⊢
        exact iteF (q H (Same.refl _))
theorem scRefR : FnScope ["things"] ["things"] (defScope sRefR) := ⟨rfl, rfl, rfl, by decide +kernel, rfl, by decide +kernel, by decide +kernel⟩
theorem ok_refR {f fS C : Addr} {fd fdS : FuncData} (F : Fun K "refuse_no_rooms" "refuse_no_rooms" sRefR f fd) (Z : Nr K mg) (ex : Exc K mg "NoNeeds" C) (Ro : Callee P w K mg base CX0 3 "is_room" fS fdS ["thing"] spRoom) : FnOk P w K mg base (CXE P w) 4 f fd ["things"] (spRefR C) := by
  obtain ⟨ti, tint, tbool, ttup, tlist, tl, tall, tany, tsum, te, kI, kB, kT, kL⟩ := Z
  refine F.okE scRefR (fun vs H Q E h => ?_) (fun cdv A outer s H vs Q E hr hh h => ?_)
  · obtain ⟨x, rfl, _⟩ := h
    rfl
  · obtain ⟨x, rfl, h⟩ := h
    refine ⟨_, (pss_one (ps_if (PW.pt (pw_or (pt_not (pt_val (pe_callB call_isi (by rfl) ti PyProof.Rows.boot_isinstance (pa_cons (pv 0) (pa_cons (pe_tyn rfl tlist PyProof.Rows.boot_list) pa_nil))))) (pw_or1 (pt_not (pt_val (pe_callB (call_allL rfl) (by rfl) tall PyProof.Rows.boot_all (pa_cons (pe_comp (Nc := ["thing"]) (ix := [none]) rfl rfl (by refine' pi_list ?zz; case zz => exact (pv 0)) (fun _ _ _ _ _ => (pg_name (i := 0) (by show (["thing"] : List Str).Nodup; decide +kernel) rfl (Or.inl rfl))) (fun _ _ _ _ _ => pts_nil) (fun _ _ _ _ _ => (pe_call Ro.ok hr rfl Ro.bound Ro.kp Ro.bd .nil pass0 (pa_cons (pv 0) pa_nil)))) pa_nil)))))))
      (pss_one (ps_raise ex hh rfl (pa_cons pe_str pa_nil)))
      pss_nil)), ?_⟩
    have key : (∃ (a : Addr) (xs : List V) (ts : List T), x = .ref a ∧ H a = some (.lst xs) ∧ AtL H xs ts ∧ (∀ t ∈ ts, small t) ∧ xs.length ≤ 1000 ∧ (ts.all roomB = true → ∀ H', Same H H' → Q .non H') ∧ (ts.all roomB = false → ∀ H', Same H H' → E (.ref C) none H')) ∨
        ∃ t, At H x t ∧ isLs t = false ∧ ∀ H', Same H H' → E (.ref C) none H' := by
      rcases h with ⟨⟨rs, a, xs, e, ha, hA, ok, hn⟩, q⟩ | ⟨⟨a, xs, ts, e, ha, hA, sm, hn, hb⟩ | ⟨t, hA, ht⟩, qe⟩
      · refine .inl ⟨a, xs, rs.map rT, e, ha, hA, fun t ht => ?_, by rw [hA.len, List.length_map]; exact hn, fun _ => q, fun z => ?_⟩
        · obtain ⟨r, _, rfl⟩ := List.mem_map.mp ht
          exact rT_small r
        · exfalso
          rw [List.all_map] at z
          have : rs.all (roomB ∘ rT) = true := List.all_eq_true.mpr fun r hr => room_rT (ok r hr)
          rw [this] at z
          cases z
      · exact .inl ⟨a, xs, ts, e, ha, hA, sm, hn, fun z => by rw [hb] at z; (cases z), fun _ => qe⟩
      · exact .inr ⟨t, hA, ht, qe⟩
    rcases key with ⟨a, xs, ts, rfl, ha, hA, sm, hn, q, qe⟩ | ⟨t, hA, ht, qe⟩
    · refine ⟨_, rfl, _, _, _, _, rfl, rfl, .of (.lst ha), rfl, _, rfl, iteF ?_⟩
      have ln := hA.len
      refine ⟨_, rfl, a, rfl, ⟨_, SqL.of ha⟩, cmp_list (K := K) (a := a) (xs := xs) (fun i ys σ H' => ys = ((ts.take i).map roomB).map V.bl ∧ Same H H' ∧ ∃ o, σ = [o]) ⟨rfl, Same.refl _, none, rfl⟩
        (fun i ys σ H' hi ⟨e, S, _⟩ => ⟨by rw [e, List.length_map, List.length_map, List.length_take]; exact Nat.le_trans (show _ ≤ 1000 by omega) (by decide), SqL.of (S _ _ ha)⟩) ?_ ?_⟩
      · rintro ys σ H' ⟨e, S, _⟩ la nl
        rw [ln, List.take_length] at e
        subst e
        refine ⟨la, ts.map roomB, rfl, SqL.of upd_same, _, rfl, ?_⟩
        have S2 := S.trans (same_new (o := .lst ((ts.map roomB).map V.bl)) nl)
        have e2 : (ts.map roomB).all id = ts.all roomB := by rw [List.all_map]; rfl
        rw [e2]
        cases hb : ts.all roomB with
        | true => exact iteF (q hb _ S2)
        | false => exact iteT ⟨by show 1 ≤ sizeLine; decide, qe hb _ S2⟩
      · rintro i x ys σ H' hx ⟨e, S, o, rfl⟩
        subst e
        obtain ⟨t, et, hAt⟩ := hA.get hx
        obtain ⟨hil, ev⟩ := List.getElem?_eq_some_iff.mp et
        dsimp only [gName, tYes]
        refine iteT ?_
        refine ⟨_, rfl, x, t, rfl, hAt.same S, sm t (List.mem_of_getElem? et), fun H2 S2 => ⟨?_, S.trans S2, _, rfl⟩⟩
        rw [← List.take_append_getElem hil, ev, List.map_append, List.map_append]
        rfl
    · refine ⟨_, rfl, _, _, _, _, rfl, rfl, hA.ty, kL t, _, rfl, ?_⟩
      rw [ht]
      exact iteT (iteT ⟨by show 1 ≤ sizeLine; decide, qe H (Same.refl _)⟩)
theorem scNar : FnScope ["words", "wide", "number", "word"] ["words", "wide"] (defScope sNar) := ⟨rfl, rfl, rfl, by decide +kernel, rfl, by decide +kernel, by decide +kernel⟩
theorem ok_nar {f : Addr} {fd : FuncData} (F : Fun K "narrow_ones" "narrow_ones" sNar f fd) (Z : Nr K mg) : FnOk P w K mg base CX0 1 f fd ["words", "wide"] spNar := by
  obtain ⟨ti, tint, tbool, ttup, tlist, tl, tall, tany, tsum, te, kI, kB, kT, kL⟩ := Z
  refine F.ok scNar (fun vs H Q E h => ?_) (fun cdv A outer s H vs Q E hr h => ?_)
  · obtain ⟨a, ws, wide, rfl, _⟩ := h
    rfl
  · obtain ⟨a, ws, wide, rfl, ha, hw, hn, q⟩ := h
    refine ⟨_, (pss_cons (ps_for PassesOwn.never rfl (pi_enumL rfl te (pa_cons (pv 0) pa_nil)) (pg_tup rfl (pgs_cons (pg_name (i := 2) scNar.nd rfl (Or.inl rfl)) (pgs_cons (pg_name (i := 3) scNar.nd rfl (Or.inl rfl)) pgs_nil)))
      (pss_one (ps_if (pt_cmpR op_gt (pe_callB call_len_str (by rfl) tl PySem.boot_len (pa_cons (pv 3) pa_nil)) (pv 1) (nomark _))
        (pss_one (ps_ret (pe_slice sl_list (pv 0) po_none (po_some (pv 2)))))
        pss_nil)))
      (pss_one (ps_ret (pv 0)))), ?_⟩
    refine ⟨_, rfl, a, rfl, ⟨_, SqL.of ha⟩, for_enumL (K := K) (a := a) (xs := tx ws) (fun i σ H2 => ∃ o1 o2 : Option V, σ = [some (.ref a), some (.int wide), o1, o2] ∧ Same H H2 ∧ ∀ u ∈ ws.take i, (u.length : Int) ≤ wide)
      ⟨none, none, rfl, Same.refl _, fun u hu => by rw [List.take_zero] at hu; exact (List.not_mem_nil hu).elim⟩ (fun i σ H2 _ ⟨_, _, _, S, _⟩ => SqL.of (S _ _ ha)) ?_ ?_⟩
    · rintro i x σ H2 p hx ⟨o1, o2, rfl, S, hle⟩ np
      obtain ⟨v, hv, rfl⟩ := tx_get' hx
      obtain ⟨hil, ev⟩ := List.getElem?_eq_some_iff.mp hv
      have S3 := S.trans (same_new (o := .tup [.int i, .str (txt v)]) np)
      refine ⟨p, _, rfl, SqT.of upd_same, rfl, _, _, rfl, _, _, rfl, rfl, ?_⟩
      generalize upd H2 p (.tup [.int i, .str (txt v)]) = H3 at S3
      refine tst_of (p := wide < (v.length : Int)) (evl_I0 (evl_lenS (evl_var rfl) (Nat.le_trans (hw v (List.mem_of_getElem? hv)).2.1 (by decide))) (evl_var rfl)) _ ?_
      dsimp only
      refine ite2 (fun c => ?_) (fun c => ?_)
      · have c := of_decide_eq_true c
        refine ⟨_, rfl, _, rfl, _, rfl, a, _, rfl, SqL.of (S3 _ _ ha), fun l nl => ?_⟩
        refine q l _ (S3.trans (same_new nl)) ?_
        rw [upd_same, cutV_takeI _ _ (by omega), tx_takeN, Int.toNat_natCast, nar_take hle]
        intro u hu
        rw [hv] at hu
        cases hu
        exact c
      · have c : ¬ wide < (v.length : Int) := fun z => c (decide_eq_true z)
        refine ⟨_, _, rfl, S3, fun u hu => ?_⟩
        rw [← List.take_append_getElem hil, ev] at hu
        rcases List.mem_append.mp hu with m | m
        · exact hle u m
        · rw [List.mem_singleton.mp m]
          omega
    · rintro σ H2 ⟨o1, o2, rfl, S, hle⟩
      rw [tx_len, List.take_length] at hle
      refine ⟨_, rfl, q a H2 S ?_⟩
      rw [nar_all hle]
      exact S _ _ ha
theorem sum_lens : ∀ gs : List (List W), (gs.map fun g => (g.length : Int)).sum = (gs.flatten.length : Nat)
  | [] => rfl
  | g :: r => by
    rw [List.map_cons, List.sum_cons, sum_lens r, List.flatten_cons, List.length_append]
    omega
theorem free32 {u : W} (h : okW u) : u ≠ [] ∧ 32 ∉ u := ⟨fun z => by have := h.1; rw [z] at this; exact absurd this (by decide), fun z => by
  have := h.2.2 32 z
  unfold good at this
  omega⟩
theorem scOn : FnScope ["rows"] ["rows"] (defScope sOn) := ⟨rfl, rfl, rfl, by decide +kernel, rfl, by decide +kernel, by decide +kernel⟩
theorem ok_on {f : Addr} {fd : FuncData} (F : Fun K "words_on" "words_on" sOn f fd) (Z : Nr K mg) : FnOk P w K mg base CX0 1 f fd ["rows"] spOn := by
  obtain ⟨ti, tint, tbool, ttup, tlist, tl, tall, tany, tsum, te, kI, kB, kT, kL⟩ := Z
  refine F.ok scOn (fun vs H Q E h => ?_) (fun cdv A outer s H vs Q E hr h => ?_)
  · obtain ⟨a, gs, rfl, _⟩ := h
    rfl
  · obtain ⟨a, gs, rfl, ha, hg, hb, hn, q⟩ := h
    refine ⟨_, (pss_one (ps_ret (pe_callB (call_sumG rfl) (by rfl) tsum PyProof.Rows.boot_sum (pa_cons (pe_comp (Nc := ["row"]) (ix := [none]) rfl rfl (by refine' pi_list ?zz; case zz => exact (pv 0)) (fun _ _ _ _ _ => (pg_name (i := 0) (by show (["row"] : List Str).Nodup; decide +kernel) rfl (Or.inl rfl))) (fun _ _ _ _ _ => pts_nil) (fun _ _ _ _ _ => (pe_callB (call_lenK (K := K) rfl) (by rfl) tl PySem.boot_len (by exact (pa_cons (pe_bmK (K := K) rfl PySem.F.plainAttrs_str PySem.F.slot_str_split PySem.F.type_str_split mt_splitB (pv 0) (pa_cons pe_str pa_nil)) pa_nil))))) pa_nil)))), ?_⟩
    refine ⟨_, rfl, a, rfl, ⟨_, SqL.of ha⟩, cmp_list (K := K) (a := a) (xs := tx (gs.map glue)) (fun i ys σ H' => ys = ((gs.take i).map fun g => (g.length : Int)).map V.int ∧ Same H H' ∧ ∃ o, σ = [o]) ⟨rfl, Same.refl _, none, rfl⟩
        (fun i ys σ H' hi ⟨e, S, _⟩ => ⟨by rw [e, List.length_map, List.length_map, List.length_take]; exact Nat.le_trans (show _ ≤ 1000 by omega) (by decide), SqL.of (S _ _ ha)⟩) ?_ ?_⟩
    · rintro ys σ H' ⟨e, S, _⟩ la nl
      rw [tx_len, List.length_map, List.take_length] at e
      subst e
      refine ⟨la, _, rfl, SqL.of upd_same, ?_⟩
      rw [sum_lens]
      exact q _ (S.trans (same_new nl))
    · rintro i x ys σ H' hx ⟨e, S, o, rfl⟩
      subst e
      obtain ⟨v, hv, rfl⟩ := tx_get' hx
      rw [List.getElem?_map] at hv
      obtain ⟨g, eg, rfl⟩ : ∃ g, gs[i]? = some g ∧ v = glue g := by
        cases e : gs[i]? with
        | none => rw [e] at hv; cases hv
        | some g => rw [e] at hv; cases hv; exact ⟨g, rfl, rfl⟩
      obtain ⟨hil, ev⟩ := List.getElem?_eq_some_iff.mp eg
      have mg := hg g (List.mem_of_getElem? eg)
      have bg := hb g (List.mem_of_getElem? eg)
      dsimp only [gName, tYes]
      refine iteT ?_
      have lg : g.length ≤ 1000000 := by
        have := glue_ge g (fun u hu => (mg.2 u hu).1)
        omega
      refine ⟨_, rfl, rfl, g, rfl, rfl, mg.1, (fun u hu => free32 (mg.2 u hu)), by omega, lg, fun l nl => ?_⟩
      refine ⟨l, _, rfl, .inl (SqL.of upd_same), ?_, S.trans (same_new nl), _, rfl⟩
      rw [List.length_map, ← List.take_append_getElem hil, ev, List.map_append, List.map_append]
      rfl
end
end KW
set_option Elab.async false
set_option linter.all false
set_option maxRecDepth 100000
set_option maxHeartbeats 1000000
namespace KW
open PySem L2 Lin PySem.W
open Tre (T)
theorem lns_mem {wide : Int} {h : Nat} {ws : List W} : ∀ g ∈ lns wide h ws, ∀ u ∈ g, u ∈ ws := fun g hg u hu => by
  have : u ∈ (lns wide h ws).flatten := List.mem_flatten.mpr ⟨g, hg, hu⟩
  rw [lns_flat] at this
  exact List.mem_of_mem_take this
theorem AtL.room {H : Hp} {xs : List V} {rs : List Rm} (h : AtL H xs (rs.map rT)) {i : Nat} {x : V} (hx : xs[i]? = some x) : ∃ (r : Rm) (p : Addr), rs[i]? = some r ∧ x = .ref p ∧ H p = some (.tup [.int r.1, .int r.2]) := by
  obtain ⟨t, et, hA⟩ := h.get hx
  rw [List.getElem?_map] at et
  cases e : rs[i]? with
  | none => rw [e] at et; cases et
  | some r =>
    rw [e] at et
    cases et
    cases hA with
    | @tup a us ss e1 hL =>
    cases hL with
    | @cons u0 _ _ _ h0 hr =>
    cases h0
    cases hr with
    | @cons u1 _ _ _ h1 hr2 =>
    cases h1
    cases hr2
    exact ⟨r, a, rfl, rfl, e1⟩
section
variable {P : Program} {w : World} {K : PySem.W.Frag} {mg : Str → Option Value} {base : Heap}
theorem scPour : FnScope ["words", "rooms", "filled", "used", "wide", "high", "rows"] ["words", "rooms"] (defScope sPour) := ⟨rfl, rfl, rfl, by decide +kernel, rfl, by decide +kernel, by decide +kernel⟩
theorem ok_pour {f CT CN fRe fRr fTa fNa fOn : Addr} {fd dRe dRr dTa dNa dOn : FuncData} (F : Fun K "poured" "poured" sPour f fd)
    (Re : Callee P w K mg base (CXE P w) 4 "refuse_no_words" fRe dRe ["things"] (spRefuse CT)) (Rr : Callee P w K mg base (CXE P w) 4 "refuse_no_rooms" fRr dRr ["things"] (spRefR CN))
    (Ta : Callee P w K mg base CX0 1 "taken" fTa dTa ["words", "wide"] spTaken) (Na : Callee P w K mg base CX0 1 "narrow_ones" fNa dNa ["words", "wide"] spNar)
    (On : Callee P w K mg base CX0 1 "words_on" fOn dOn ["rows"] spOn) : FnOk P w K mg base (CXE P w) 5 f fd ["words", "rooms"] (spPour CT CN) := by
  refine F.okE scPour (fun vs H Q E h => ?_) (fun cdv A outer s H vs Q E hr hh h => ?_)
  · obtain ⟨x, y, rfl, _⟩ := h
    rfl
  · obtain ⟨x, y, rfl, h⟩ := h
    refine ⟨_, (pss_cons (ps_expr (pe_call Re.ok hr rfl Re.bound Re.kp Re.bd .nil passEE (pa_cons (pv 0) pa_nil)))
      (pss_cons (ps_expr (pe_call Rr.ok hr rfl Rr.bound Rr.kp Rr.bd .nil passEE (pa_cons (pv 1) pa_nil)))
      (pss_cons (ps_set (i := 2) scPour.nd rfl (Or.inl rfl) (pe_lst pa_nil))
      (pss_cons (ps_set (i := 3) scPour.nd rfl (Or.inl rfl) pe_int)
      (pss_cons (PS.nox (ps_for PassesOwn.never rfl (pi_list (pv 1)) (pg_tup rfl (pgs_cons (pg_name (i := 4) scPour.nd rfl (Or.inl rfl)) (pgs_cons (pg_name (i := 5) scPour.nd rfl (Or.inl rfl)) pgs_nil)))
      (pss_cons (ps_set (i := 6) scPour.nd rfl (Or.inl rfl) (pe_slice sl_list (pe_call Ta.ok (hr.mono (show 1 ≤ 4 by decide)) rfl Ta.bound Ta.kp Ta.bd .nil pass0 (pa_cons (pe_call Na.ok (hr.mono (show 1 ≤ 4 by decide)) rfl Na.bound Na.kp Na.bd .nil pass0 (pa_cons (pe_slice sl_list (pv 0) (po_some (pv 3)) po_none) (pa_cons (pv 4) pa_nil))) (pa_cons (pv 4) pa_nil))) po_none (po_some (pv 5))))
        (pss_cons (ps_expr (pe_bm PySem.F.plainAttrs_list PySem.F.slot_list_append PySem.F.type_list_append mt_append (pv 2) (pa_cons (pv 6) pa_nil)))
        (pss_one (ps_aug (i := 3) scPour.nd rfl (Or.inl rfl) (pe_call On.ok (hr.mono (show 1 ≤ 4 by decide)) rfl On.bound On.kp On.bd .nil pass0 (pa_cons (pv 6) pa_nil)) ip_add))))))
      (pss_one (ps_ret (pe_tup (pa_cons (pv 2) (pa_cons (pe_slice sl_list (pv 0) (po_some (pv 3)) po_none) pa_nil)))))))))), ?_⟩
    rcases h with ⟨a, ws, rfl, ha, hw, hn, h⟩ | ⟨bad, qe⟩
    case inr => exact ⟨_, rfl, _, rfl, .inr ⟨bad, qe⟩⟩
    refine ⟨_, rfl, _, rfl, .inl ⟨a, ws, rfl, ha, hw, hn, fun H1 S1 => ?_⟩⟩
    rcases h with ⟨rs, hR, q⟩ | ⟨bad, qe⟩
    case inr => exact ⟨_, rfl, _, rfl, .inr ⟨bad.same S1, fun H2 S2 => qe H2 (S1.trans S2)⟩⟩
    refine ⟨_, rfl, _, rfl, .inl ⟨⟨rs, hR.same S1⟩, fun H2 S2 => ?_⟩⟩
    have S12 := S1.trans S2
    clear S1 S2
    obtain ⟨b, xs, rfl, hb, hA, ok, hrn⟩ := hR
    have ln := hA.len
    rw [List.length_map] at ln
    refine ⟨by show 0 ≤ sizeLine; decide, fun lf nlf => ?_⟩
    have S3 := S12.trans (same_new (o := .lst []) nlf)
    have hlf : (upd H2 lf (.lst [])) lf = some (.lst []) := upd_same
    generalize upd H2 lf (.lst []) = H3 at S3 hlf
    have flf : H lf = none := S12.free nlf
    clear S12
    refine ⟨_, rfl, b, rfl, ⟨_, SqL.of (S3 _ _ hb)⟩, for_list (K := K) (a := b) (xs := xs) (fun i σ H4 => ∃ (o4 o5 o6 : Option V) (ps : List Addr), σ = [some (.ref a), some (.ref b), some (.ref lf), some (.int ((pour ws (rs.take i)).2 : Nat)), o4, o5, o6] ∧ Same H H4 ∧
        H4 lf = some (.lst (refs ps)) ∧ (lf :: ps).Nodup ∧ (∀ p ∈ ps, H p = none) ∧ ps.length = i ∧ Rs H4 ps (pour ws (rs.take i)).1) ⟨none, none, none, [], rfl, S3, hlf, by simp, fun p hp => (List.not_mem_nil hp).elim, rfl, .nil⟩
      (fun i σ H4 _ ⟨_, _, _, _, _, S, _⟩ => SqL.of (S _ _ hb)) ?_ ?_⟩
    · rintro i x σ H4 hx ⟨o4, o5, o6, ps, rfl, S4, hl4, nd, fr, lp, hRs⟩
      obtain ⟨r, p, er, rfl, hp⟩ := hA.room hx
      obtain ⟨hil, ev⟩ := List.getElem?_eq_some_iff.mp er
      have okr := ok r (List.mem_of_getElem? er)
      have ul := pour_le ws (rs.take i)
      have es : pour ws (rs.take (i + 1)) = step ws (pour ws (rs.take i)) r := by rw [← List.take_append_getElem hil, ev, pour_snoc]
      rw [es]
      generalize pour ws (rs.take i) = st at ul hRs
      obtain ⟨acc, u⟩ := st
      have ul : u ≤ ws.length := ul
      refine ⟨p, _, rfl, SqT.of (S4 _ _ hp), rfl, _, _, rfl, _, _, rfl, rfl, ?_⟩
      dsimp only
      refine ⟨_, rfl, _, rfl, _, rfl, a, _, rfl, SqL.of (S4 _ _ ha), fun pc nc => ?_⟩
      rw [cutV_tx_drop ws u ul]
      have S5 := same_new (o := .lst (tx (ws.drop u))) nc
      have hpc : (upd H4 pc (.lst (tx (ws.drop u)))) pc = some (.lst (tx (ws.drop u))) := upd_same
      generalize upd H4 pc (.lst (tx (ws.drop u))) = H5 at S5 hpc
      have hwd : ∀ v ∈ ws.drop u, okW v := fun v hv => hw v (List.mem_of_mem_drop hv)
      have hnd : (ws.drop u).length ≤ 1000 := by rw [List.length_drop]; omega
      refine ⟨_, rfl, pc, ws.drop u, r.1, rfl, hpc, hwd, hnd, fun l6 H6 S6 h6 => ?_⟩
      have hnn := nar_len (wide := r.1) (ws := ws.drop u)
      refine ⟨_, rfl, l6, _, r.1, rfl, h6, (fun v hv => hwd v (mem_nar hv)), by omega, fun l7 H7 S7 n7 h7 => ?_⟩
      refine ⟨_, rfl, _, rfl, l7, _, rfl, SqL.of h7, fun l8 n8 => ?_⟩
      rw [cutV_takeI _ _ (by have := okr.2; omega), tx_takeN, lns_taken]
      have bt := taken_bound r.1 (nar r.1 (ws.drop u)) (fun v hv => (hwd v (mem_nar hv)).2.1)
      have hgl : ∀ g ∈ lns r.1 r.2.toNat (ws.drop u), (glue g).length ≤ 100000 := fun g hg => by
        have : glue g ∈ (lns r.1 r.2.toNat (ws.drop u)).map glue := List.mem_map.mpr ⟨g, hg, rfl⟩
        rw [← lns_taken] at this
        have := bt _ (List.mem_of_mem_take this)
        omega
      have hll : (lns r.1 r.2.toNat (ws.drop u)).length ≤ 1000 := by
        have e : (lns r.1 r.2.toNat (ws.drop u)).length = ((lns r.1 r.2.toNat (ws.drop u)).map glue).length := (List.length_map _).symm
        rw [e, ← lns_taken, List.length_take]
        have := taken_len_le r.1 (nar r.1 (ws.drop u))
        omega
      have hgo : ∀ g ∈ lns r.1 r.2.toNat (ws.drop u), g ≠ [] ∧ ∀ v ∈ g, okW v := fun g hg => ⟨lns_ne g hg, fun v hv => hwd v (lns_mem g hg v hv)⟩
      have S47 := S5.trans (S6.trans S7)
      have S8 := same_new (o := .lst (tx ((lns r.1 r.2.toNat (ws.drop u)).map glue))) n8
      have h8 : (upd H7 l8 (.lst (tx ((lns r.1 r.2.toNat (ws.drop u)).map glue)))) l8 = some (.lst (tx ((lns r.1 r.2.toNat (ws.drop u)).map glue))) := upd_same
      have n84 : H4 l8 = none := S47.free n8
      have S48 := S47.trans S8
      generalize upd H7 l8 (.lst (tx ((lns r.1 r.2.toNat (ws.drop u)).map glue))) = H8 at S8 h8 S48
      have h8lf : l8 ≠ lf := fun z => by rw [z, hl4] at n84; cases n84
      refine ⟨_, rfl, .inl ⟨rfl, _, SqL.of (S48 _ _ hl4)⟩, _, rfl, lf, _, _, rfl, rfl, S48 _ _ hl4, ?_, ?_⟩
      · unfold refs
        rw [List.length_map, lp]
        exact Nat.lt_of_le_of_lt (show i ≤ 1000 by omega) (by decide)
      rw [refs_snoc]
      have S9 : Same H (upd H8 lf (.lst (refs (ps ++ [l8])))) := same_upd (S4.trans S48) flf
      have h9 : (upd H8 lf (.lst (refs (ps ++ [l8])))) l8 = some (.lst (tx ((lns r.1 r.2.toNat (ws.drop u)).map glue))) := (upd_ne h8lf).trans h8
      have hl9 : (upd H8 lf (.lst (refs (ps ++ [l8])))) lf = some (.lst (refs (ps ++ [l8]))) := upd_same
      have hR9 : Rs (upd H8 lf (.lst (refs (ps ++ [l8])))) ps acc := Rs.but (fun z => (List.nodup_cons.mp nd).1 z) (hRs.same S48)
      generalize upd H8 lf (.lst (refs (ps ++ [l8]))) = H9 at S9 h9 hl9 hR9
      refine ⟨_, rfl, _, rfl, l8, _, rfl, h9, hgo, hgl, hll, fun H10 S10 => ⟨_, _, rfl, rfl, ?_⟩⟩
      refine ⟨some (.int r.1), some (.int r.2), some (.ref l8), ps ++ [l8], ?_, S9.trans S10, S10 _ _ hl9, ?_, ?_, by rw [List.length_append, lp]; rfl, (hR9.same S10).snoc (S10 _ _ h9)⟩
      · show _ = ([some (.ref a), some (.ref b), some (.ref lf), some (.int ((u + used r.1 r.2.toNat (ws.drop u) : Nat) : Int)), some (.int r.1), some (.int r.2), some (.ref l8)] : List (Option V))
        rw [Int.natCast_add]
        rfl
      · have l8p : l8 ∉ ps := fun z => by
          obtain ⟨g, hg⟩ := hRs.has z
          rw [n84] at hg
          cases hg
        rw [List.nodup_cons] at nd ⊢
        refine ⟨fun z => ?_, List.nodup_append.mpr ⟨nd.2, by simp, ?_⟩⟩
        · rcases List.mem_append.mp z with m | m
          · exact nd.1 m
          · exact h8lf (List.mem_singleton.mp m).symm
        · intro c hc d hd
          rw [List.mem_singleton.mp hd]
          exact fun z => l8p (z ▸ hc)
      · intro c hc
        rcases List.mem_append.mp hc with m | m
        · exact fr c m
        · rw [List.mem_singleton.mp m]
          exact S4.free n84
    · rintro σ H4 ⟨o4, o5, o6, ps, rfl, S4, hl4, nd, fr, lp, hRs⟩
      rw [ln, List.take_length] at hRs ⊢
      have ul := pour_le ws rs
      refine ⟨_, rfl, _, rfl, _, rfl, _, rfl, a, _, rfl, SqL.of (S4 _ _ ha), fun ll nll => ?_⟩
      rw [cutV_tx_drop ws _ ul]
      have S5 := same_new (o := .lst (tx (ws.drop (pour ws rs).2))) nll
      have hll : (upd H4 ll (.lst (tx (ws.drop (pour ws rs).2)))) ll = some (.lst (tx (ws.drop (pour ws rs).2))) := upd_same
      have n1 : ll ≠ lf := fun z => by rw [z, hl4] at nll; cases nll
      have n2 : ll ∉ ps := fun z => by
        obtain ⟨g, hg⟩ := hRs.has z
        rw [nll] at hg
        cases hg
      generalize upd H4 ll (.lst (tx (ws.drop (pour ws rs).2))) = H5 at S5 hll
      refine ⟨by show 2 ≤ sizeLine; decide, fun t nt => ?_⟩
      have S6 := same_new (o := .tup [.ref lf, .ref ll]) nt
      refine q t lf ll ps _ (S4.trans (S5.trans S6)) ?_ ?_ upd_same (S6 _ _ (S5 _ _ hl4)) (S6 _ _ hll) (hRs.same (S5.trans S6))
      · rw [List.nodup_cons] at nd ⊢
        refine ⟨fun z => ?_, List.nodup_cons.mpr ⟨n2, nd.2⟩⟩
        rcases List.mem_cons.mp z with m | m
        · exact n1 m.symm
        · exact nd.1 m
      · intro c hc
        rcases List.mem_cons.mp hc with m | m
        · rw [m]; exact flf
        · rcases List.mem_cons.mp m with m | m
          · rw [m]; exact S4.free nll
          · exact fr c m
end
end KW
set_option Elab.async false
set_option linter.all false
set_option maxRecDepth 100000
namespace PySem
open AutoSeq1
end PySem
namespace L2
open PySem PySem.Spec PyProof.Rows
section
variable {X : Cx}
theorem vals_intsB : ∀ {ns : List Int} {us : List Value}, IntsAre us ns → Vals (ns.map V.int) us
  | _, _, .nil => .nil
  | _, _, .cons n t r => .cons ⟨t, rfl⟩ (vals_intsB r)
end
end L2
set_option Elab.async false
set_option linter.all false
set_option maxRecDepth 100000
set_option maxHeartbeats 1000000
namespace L2
open PySem PySem.Spec PyProof.Rows PySem.W
def NF (X : Cx) (a : Addr) : Prop := ∀ o u, X.H₀ a ≠ some (.frz o u)
section
variable {X : Cx} {pins : List (Addr × Obj)} {σ : St} {H : Hp} {s : Shared} {a : Addr} {ob : Obj} {u : HO}
theorem Inv.freeze {kvs : List (Key × V)} (I : Inv X pins σ H s) (e : H a = some (.dK kvs)) (ho : s.heap.get? a = some ob) : Inv X pins σ (upd H a (.frz ob (.dK kvs))) s := by
  have ne : ∀ b v, H b = some v → v ≠ .dK kvs → b ≠ a := fun b v q n z => by rw [z, e] at q; cases q; exact n rfl
  have un : Un X.fs [] H (upd H a (.frz ob (.dK kvs))) s.heap s.heap := ⟨fun b o q _ _ _ => q, fun b o q _ _ _ => ⟨o.slots, q⟩, fun b o q n _ => by
      rw [upd_ne (fun z => by rw [z, e] at n; cases n)]
      exact n, fun b o q _ => ⟨o, q⟩, fun b xs q => by rw [upd_ne (ne b _ q (fun z => by cases z))]; exact q, fun b o v q => by rw [upd_ne (ne b _ q (fun z => by cases z))]; exact q, fun b ps q => ⟨#[], by rw [upd_ne (ne b _ q (fun z => by cases z)), q]; simp⟩⟩
  refine I.un (h' := s.heap) (t' := s.toks) un fun b o q => ?_
  have st : ∀ b o, ObjOk X.prog X.w H s.heap b o → ObjOk X.prog X.w (upd H a (.frz ob (.dK kvs))) s.heap b o := fun b o x => x.stay (fun _ _ _ r => r) (fun c r => by rw [upd_ne (ne c _ r (fun z => by cases z))]; exact r) fun c xs r => by rw [upd_ne (ne c _ r (fun z => by cases z))]; exact r
  by_cases hb : b = a
  · subst hb
    rw [upd_same] at q
    cases q
    exact ⟨ho, st _ _ (I.hok _ _ e)⟩
  · rw [upd_ne hb] at q
    exact st _ _ (I.hok _ _ q)
theorem Inv.thaw {kvs : List (Key × V)} (I : Inv X pins σ H s) (e : H a = some (.frz ob (.dK kvs))) (n : NF X a) : Inv X pins σ (upd H a (.dK kvs)) s := by
  have ne : ∀ b v, H b = some v → v ≠ .frz ob (.dK kvs) → b ≠ a := fun b v q n z => by rw [z, e] at q; cases q; exact n rfl
  have nn : ∀ b, H b = none → b ≠ a := fun b q z => by rw [z, e] at q; cases q
  refine ⟨I.ok, I.os, I.bare, ⟨I.base.keep, I.base.slot, fun b o q n hx => ?_, I.base.there, fun b xs q => ?_, fun b o v q => ?_, fun b ps q => ?_⟩, I.loc, I.cell, ?_, fun x c q => ?_, fun p hp => ?_, fun b o q => ?_, I.len⟩
  · have := I.base.free b o q n hx
    rw [upd_ne (nn b this)]
    exact this
  · have := I.base.tups b xs q
    rw [upd_ne (ne b _ this (fun z => by cases z))]
    exact this
  · by_cases hb : b = a
    · subst hb
      exact absurd q (n o v)
    · rw [upd_ne hb]
      exact I.base.frzs b o v q
  · obtain ⟨m, q'⟩ := I.base.tbls b ps q
    exact ⟨m, by rw [upd_ne (ne b _ q' (fun z => by cases z))]; exact q'⟩
  · rw [upd_ne (nn _ I.free)]
    exact I.free
  · rw [upd_ne (nn _ (I.freeC x c q))]
    exact I.freeC x c q
  · obtain ⟨a1, a2, a3⟩ := I.pin p hp
    exact ⟨a1, by rw [upd_ne (nn _ a2)]; exact a2, a3⟩
  · have st : ∀ b o, ObjOk X.prog X.w H s.heap b o → ObjOk X.prog X.w (upd H a (.dK kvs)) s.heap b o := fun b o x => x.stay (fun _ _ _ r => r) (fun c r => by rw [upd_ne (ne c _ r (fun z => by cases z))]; exact r) fun c xs r => by rw [upd_ne (ne c _ r (fun z => by cases z))]; exact r
    by_cases hb : b = a
    · subst hb
      rw [upd_same] at q
      cases q
      exact st _ _ (I.hok _ _ e).2
    · rw [upd_ne hb] at q
      exact st _ _ (I.hok _ _ q)
end
theorem rel_key {P : Program} {w : World} {k : Key} {v : Value} (h : (mixKind P w).is k v = true) : RelV (kV k) v := by
  rcases keyIs_shape h with ⟨i, t, rfl, rfl⟩ | ⟨x, t, rfl, rfl⟩
  · exact ⟨t, rfl⟩
  · exact ⟨t, rfl⟩
def Itd (ob : Obj) (kvs : List (Key × V)) (a : Addr) : It :=
  ⟨fun i H => i < kvs.length ∧ H a = some (.frz ob (.dK kvs)), fun i H x H' => H' = H ∧ ∃ kv, kvs[i]? = some kv ∧ x = kV kv.1, fun i H => kvs.length ≤ i ∧ H a = some (.frz ob (.dK kvs))⟩
theorem turn_dict {P : Program} {w : World} {K : PySem.W.Frag} {tg : Expr} {ob : Obj} {kvs : List (Key × V)} {vs : List (Key × Value)} {ep : Nat} (a it : Addr) (hne : a ≠ it) (kv : KV kvs vs) (hat : ∀ h : Heap, h.get? a = some ob → h.DictAt (mixKind P w) a vs ep) :
    Turn P w K tg (Itd ob kvs a) [it] it (fun i h => h.IsKeyIter it a i vs.length ep) where
  mem := by simp
  obj := fun i h st b hb => by
    have e : b = it := by simpa using hb
    subst e
    obtain ⟨o, e, c, d⟩ := st
    exact ⟨o, e, fun v z => by rw [d] at z; cases z⟩
  keep := fun i h h' st k => st.at fun o e => k it (by simp) o e
  item := by
    intro X hP hw hK hc i pins s σ H E I hf st hg
    subst hP hw hK
    obtain ⟨hi, hfz⟩ := hg
    have hd := hat _ (I.hok _ _ hfz).1
    have hk := kv.keys
    have hl : i < vs.length := by rw [← kv.length]; exact hi
    obtain ⟨f0, f1, f2, f3, f4, f5⟩ := hf it (by simp)
    refine wpAny_pyNext_dict_item st hd (k := vs[i].1) (v := vs[i].2) (by rw [List.getElem?_eq_getElem hl]) fun key h' hkey st' sb => ?_
    have I1 : Inv X pins σ H { s with heap := h' } := I.turned (t' := s.toks) (fun b o hb e => (sb.2 b hb).trans e) f0 f1 f3 f4 f5
    obtain ⟨o, e, c, d⟩ := id st'
    have ek : kvs[i].1 = vs[i].1 := by
      have := congrArg (fun l : List Key => l[i]?) hk
      simp only [List.getElem?_map, List.getElem?_eq_getElem hi, List.getElem?_eq_getElem hl] at this
      exact Option.some.inj this
    exact ⟨key, rfl, go_of (s := { s with heap := h' }) e c d (by decide) ⟨kV vs[i].1, H, I1, rel_key hkey, ⟨rfl, kvs[i], List.getElem?_eq_getElem hi, by rw [ek]⟩, st', fun b hb => (hf b hb).1⟩⟩
  done := by
    intro X hP hw hK hc i pins s σ H E I hf st hg
    subst hP hw hK
    obtain ⟨hi, hfz⟩ := hg
    have hd := hat _ (I.hok _ _ hfz).1
    obtain ⟨f0, f1, f2, f3, f4, f5⟩ := hf it (by simp)
    exact wpAny_pyNext_dict_end (I.ok.hd hc) st hd (by rw [List.getElem?_eq_none_iff, ← kv.length]; exact hi) fun h' eb => ⟨rfl, I.turned (t' := s.toks) (fun b o hb e => eb b o hb e) f0 f1 f3 f4 f5⟩
  self := fun _ _ _ _ _ st h => wpAny_pyIter_keyiter st h
def iDict (N : Addr → Prop) (tl : TE) : TI := fun σ H R => tl σ H fun x H1 => ∃ a kvs, x = .ref a ∧ H1 a = some (.dK kvs) ∧ ∀ ob, N a → R (Itd ob kvs a) (upd H1 a (.frz ob (.dK kvs)))
theorem pi_dict {X : Cx} {tg l : Expr} {tl : TE} (hl : PE X l tl) : PI X tg l (iDict (NF X) tl) := by
  intro pins s σ H R I h
  refine thn (hl pins s σ H _ I h) fun v s1 ⟨x, H1, I1, r1, q1⟩ => ?_
  obtain ⟨a, kvs, e, hq, q⟩ := q1
  subst e
  cases r1
  obtain ⟨hz, hd, vs, kv, hD⟩ := dk_of I1.hok hq
  obtain ⟨ep, o, es, ho, hE⟩ := hD.dictAt
  have hat : ∀ h : Heap, h.get? a = some o → h.DictAt (mixKind X.prog X.w) a vs ep := fun h e => ⟨o, es, e, hE⟩
  have nf : NF X a := fun o u z => by
    have := I1.base.frzs a o u z
    rw [hq] at this
    cases this
  refine wpAny_pyIter_dict hd (hat _ ho) ?_
  have I2 := I1.freeze hq ho
  refine ⟨s1.heap.objs.size, [s1.heap.objs.size], _, _, _, rfl, I2.kept (t' := s1.toks) fun b o e => Heap.get?_push_of_some _ e, turn_dict a _ (Nat.ne_of_lt (Heap.lt_size ho)) kv hat, ⟨_, Heap.get?_push_size _ rfl, rfl, rfl⟩, fun b hb => ?_, q o nf⟩
  have e : b = s1.heap.objs.size := by simpa using hb
  subst e
  exact I2.fpOk (Nat.le_refl _) (I2.hok.fresh (Nat.le_refl _))
def tThaw (N : Addr → Prop) (te : TE) : TE := fun σ H Q => te σ H fun v H' => ∃ a ob kvs, H' a = some (.frz ob (.dK kvs)) ∧ N a ∧ Q v (upd H' a (.dK kvs))
theorem pe_thaw {X : Cx} {e : Expr} {te : TE} (h : PE X e te) : PE X e (tThaw (NF X) te) := by
  intro pins s σ H Q I q
  refine thn (h pins s σ H _ I q) fun v s1 ⟨x, H1, I1, r1, a, ob, kvs, e, n, q1⟩ => ?_
  exact ⟨x, _, I1.thaw e n, r1, q1⟩
theorem cmp_dict {ob : Obj} {kvs : List (Key × V)} {a : Addr} {g : TG} {tc : TT} {te : TE} {σ0 : St} {H0 : Hp} {R : List V → Hp → Prop} (Pv : Nat → List V → St → Hp → Prop) (h0 : Pv 0 [] σ0 H0) (hz : ∀ i ys σ H, i ≤ kvs.length → Pv i ys σ H → ys.length ≤ sizeLine ∧ H a = some (.frz ob (.dK kvs))) (hst : ∀ ys σ H, Pv kvs.length ys σ H → R ys H)
    (hgo : ∀ i kv ys σ H, kvs[i]? = some kv → Pv i ys σ H → g (kV kv.1) σ H fun σ2 H3 => tc σ2 H3 fun b H4 => if b = true then te σ2 H4 fun y H5 => Pv (i + 1) (ys ++ [y]) σ2 H5 else Pv (i + 1) ys σ2 H4) :
    ∃ W : Nat → Nat → List V → St → Hp → Prop, (∃ m, W 0 m [] σ0 H0) ∧ ∀ i m ys σ' H', W i m ys σ' H' →
      ((Itd ob kvs a).stop i H' ∧ ys.length ≤ sizeLine ∧ R ys H') ∨
      ((Itd ob kvs a).go i H' ∧ ys.length ≤ sizeLine ∧ ∃ N : List V → St → Hp → Prop, (∀ ys' σ2 H2, N ys' σ2 H2 → ∃ m', m' < m ∧ W (i + 1) m' ys' σ2 H2) ∧
        ∀ x H2, (Itd ob kvs a).yld i H' x H2 → g x σ' H2 fun σ2 H3 => tc σ2 H3 fun b H4 => if b = true then te σ2 H4 fun y H5 => N (ys ++ [y]) σ2 H5 else N ys σ2 H4) :=
  cmp_gen (n := kvs.length) Pv h0 (fun i ys σ H hi p => (hz i ys σ H hi p).1) (fun ys σ H p => ⟨⟨Nat.le_refl _, (hz _ ys σ H (Nat.le_refl _) p).2⟩, hst ys σ H p⟩)
    fun i ys σ H hi p => ⟨⟨hi, (hz i ys σ H (Nat.le_of_lt hi) p).2⟩, fun x H2 y => by
      obtain ⟨e, kv, hk, ex⟩ := y
      subst e ex
      exact hgo i kv ys σ _ hk p⟩
theorem ints_keys {P : Program} {w : World} : ∀ {ns : List Int} {us : List Value}, us.length = ns.length → (∀ (j : Nat) (v : Value), us[j]? = some v → ∃ n, ns[j]? = some n ∧ (mixKind P w).is (.inl n) v = true) → IntsAre us ns
  | [], [], _, _ => .nil
  | n :: ns, u :: us, hl, h => by
    obtain ⟨m, e, hk⟩ := h 0 u rfl
    cases e
    rcases keyIs_shape (k := Sum.inl n) (v := u) hk with ⟨i, t, e, rfl⟩ | ⟨x, t, e, _⟩
    · cases e
      exact .cons _ _ (ints_keys (P := P) (w := w) (by simpa using hl) fun j v hv => h (j + 1) v hv)
    · cases e
theorem call_sortD {X : Cx} (hc : X.calm = true) : CallR X (.builtin "sorted") (fun xs H Q => ∃ (a : Addr) (kvs : List (Key × V)) (ns : List Int), xs = [.ref a] ∧ H a = some (.dK kvs) ∧ kvs.map (·.1) = ns.map Sum.inl ∧ ns.length < 64 ∧
    ∀ (l : Addr) (ms : List Int), H l = none → ms.Perm ns → ms.Pairwise (· ≤ ·) → Q (.ref l) (upd H l (.lst (ms.map V.int)))) := by
  intro pins s σ H xs us Q I r h
  obtain ⟨a, kvs, ns, rfl, hq, hks, h64, q⟩ := h
  obtain ⟨u, rfl, ru⟩ := vals1 r
  cases ru
  obtain ⟨hz, hd, vs, kv, hD⟩ := dk_of I.hok hq
  obtain ⟨ep, hat⟩ := hD.dictAt
  have hl : vs.length = ns.length := by
    rw [← kv.length, ← List.length_map (f := fun x : Key × V => x.1), hks, List.length_map]
  refine Calls.call_function_entry kind_sorted plain_sorted entry_sorted (args_sorted1 _) ?_
  unfold Builtin.«sorted»
  refine wpAny_bind (m := checkCount "sorted" 1 1 _) (wpAny_pure ?_)
  have hn : vs.length ≤ sizeLine := by rw [hl]; exact Nat.le_trans (Nat.le_of_lt h64) (by decide)
  refine wpAny_bind (kdu_collect (A := X.A.in1) (kdl_dict (knd := mixKind X.prog X.w) (kvs := vs) (ep := ep) hd) (I.ok.hd hc) hat hn fun h' tk acc hk hacc => ?_)
  have hsz : acc.toList.length = vs.length := by rw [Array.length_toList]; exact hacc.1
  have hI : IntsAre acc.toList ns := ints_keys (P := X.prog) (w := X.w) (by rw [hsz, hl]) fun j v hv => by
    obtain ⟨k, x, hx, his⟩ := hacc.2 j v (by rw [← Array.getElem?_toList]; exact hv)
    have e1 : (vs.map (·.1))[j]? = some k := by rw [List.getElem?_map, hx]; rfl
    rw [← kv.keys, hks, List.getElem?_map] at e1
    cases e : ns[j]? with
    | none => rw [e] at e1; cases e1
    | some n => rw [e] at e1; cases e1; exact ⟨n, rfl, his⟩
  refine wpAny_bind (wpAny_newList ?_ (by rw [hsz]; exact hn))
  have hoL : (h'.push (seqObj "list" acc.toList.toArray 0)).get? h'.objs.size = some (seqObj "list" acc.toList.toArray 0) := Heap.get?_push_size _ rfl
  refine wpAny_bind (wpAny_holding (wpAny_call_entry slot_list_sort ⟨_, hoL, rfl⟩ entry_list_sort (list_sort_tree hoL hI (by rw [hsz, hl]; exact h64) fun out ms a1 pm st => ⟨_, rfl, ?_⟩) (args_list_sort _)))
  obtain ⟨e, he⟩ := sortedHeap_at (out := out) hoL
  have ln : (ms.map V.int).length ≤ sizeLine := by rw [List.length_map, pm.length_eq]; exact Nat.le_trans (Nat.le_of_lt h64) (by decide)
  have I1 : Inv X pins σ H { s with heap := h', toks := tk } := I.kept (h' := h') (t' := tk) hk
  refine wpAny_pure ⟨_, rfl, .ref h'.objs.size, _, I1.laid (t' := tk) (o := .lst (ms.map V.int)) (fun b u e => ?_) (Nat.le_refl _) ⟨ln, out.toList, e, vals_intsB a1, ?_⟩, rfl, q _ ms (I1.hok.fresh (Nat.le_refl _)) pm st⟩
  · have hb : h'.get? b = some u := e
    have lt := Heap.lt_size hb
    rw [sortedHeap_old (Nat.ne_of_lt lt) (by rw [size_push']; exact Nat.lt_succ_of_lt lt), Heap.get?_push_ne _ _ _ (Nat.ne_of_lt lt)]
    exact hb
  · rw [he]
end L2
set_option Elab.async false
set_option linter.all false
namespace Lin
def sl : List W → Int
  | [] => 0
  | w :: r => (w.length : Int) + 1 + sl r
theorem sl_nn : ∀ g : List W, 0 ≤ sl g
  | [] => Int.le_refl _
  | w :: r => by
    have := sl_nn r
    show 0 ≤ (w.length : Int) + 1 + sl r
    omega
theorem sl_app : ∀ a b : List W, sl (a ++ b) = sl a + sl b
  | [], b => by
    show sl b = 0 + sl b
    omega
  | w :: r, b => by
    show (w.length : Int) + 1 + sl (r ++ b) = (w.length : Int) + 1 + sl r + sl b
    rw [sl_app r b]
    omega
theorem glue_sl : ∀ g : List W, g ≠ [] → ((glue g).length : Int) = sl g - 1
  | [], h => absurd rfl h
  | [a], _ => by
    show (a.length : Int) = (a.length : Int) + 1 + 0 - 1
    omega
  | a :: b :: r, _ => by
    have ih := glue_sl (b :: r) (by simp)
    show ((a ++ 32 :: glue (b :: r)).length : Int) = (a.length : Int) + 1 + sl (b :: r) - 1
    rw [List.length_append, List.length_cons]
    omega
theorem fit_ge {wide : Int} : ∀ (g r : List W) (u : Int), u + sl g ≤ wide → g.length ≤ fit wide u (g ++ r)
  | [], _, _, _ => Nat.zero_le _
  | w :: g, r, u, h => by
    have n := sl_nn g
    have h : u + ((w.length : Int) + 1 + sl g) ≤ wide := h
    show g.length + 1 ≤ fit wide u (w :: (g ++ r))
    unfold fit
    rw [if_pos (by omega)]
    exact Nat.succ_le_succ (fit_ge g r _ (by omega))
theorem fit_sl {wide : Int} : ∀ (ws : List W) (u : Int), fit wide u ws ≠ 0 → u + sl (ws.take (fit wide u ws)) ≤ wide
  | [], _, h => absurd rfl h
  | w :: r, u, h => by
    by_cases c : u + 1 + (w.length : Int) ≤ wide
    · have e : fit wide u (w :: r) = fit wide (u + 1 + (w.length : Int)) r + 1 := by
        conv => lhs; unfold fit
        rw [if_pos c]
      rw [e, List.take_succ_cons]
      show u + ((w.length : Int) + 1 + sl (r.take (fit wide (u + 1 + (w.length : Int)) r))) ≤ wide
      by_cases z : fit wide (u + 1 + (w.length : Int)) r = 0
      · rw [z]
        show u + ((w.length : Int) + 1 + 0) ≤ wide
        omega
      · have := fit_sl r _ z
        omega
    · exfalso
      apply h
      unfold fit
      rw [if_neg c]
theorem best {wide : Int} : ∀ (gs : List (List W)) (h : Nat) (pre ws rest : List W), gs.length ≤ h → (∀ g ∈ gs, ((glue g).length : Int) ≤ wide) → pre ++ ws = gs.flatten ++ rest → gs.flatten.length ≤ pre.length + used wide h ws
  | [], h, pre, ws, rest, _, _, _ => Nat.zero_le _
  | g :: gs, 0, pre, ws, rest, l, _, _ => absurd l (by simp)
  | g :: gs, h + 1, pre, ws, rest, l, hg, e => by
    have l : gs.length ≤ h := Nat.le_of_succ_le_succ l
    have hgs : ∀ z ∈ gs, ((glue z).length : Int) ≤ wide := fun z hz => hg z (List.mem_cons_of_mem _ hz)
    rw [List.flatten_cons, List.append_assoc] at e
    rw [List.flatten_cons, List.length_append]
    rcases List.append_eq_append_iff.mp e with ⟨a, e1, e2⟩ | ⟨c, e1, e2⟩
    · by_cases ha : a = []
      · subst ha
        rw [List.append_nil] at e1
        rw [List.nil_append] at e2
        have ih := best gs h [] ws rest l hgs e2
        have := used_mono (wide := wide) (h := h) (ws := ws)
        rw [e1]
        rw [List.length_nil] at ih
        omega
      · have gn : g ≠ [] := fun z => by
          rw [z] at e1
          exact ha (List.append_eq_nil_iff.mp e1.symm).2
        have hw := hg g List.mem_cons_self
        rw [glue_sl g gn, e1, sl_app] at hw
        have np := sl_nn pre
        have fg := fit_ge (wide := wide) a (gs.flatten ++ rest) (-1) (by omega)
        rw [← e2] at fg
        rw [used_succ]
        have fl := fit_le (wide := wide) (u := -1) (ws := ws)
        generalize fit wide (-1) ws = n at fg fl
        have dd : ws.drop n = (gs.flatten ++ rest).drop (n - a.length) := by
          rw [e2, List.drop_append, List.drop_of_length_le fg, List.nil_append]
        rw [dd]
        have ih := best gs h ((gs.flatten ++ rest).take (n - a.length)) ((gs.flatten ++ rest).drop (n - a.length)) rest l hgs (List.take_append_drop _ _)
        have := List.length_take_le (n - a.length) (gs.flatten ++ rest)
        rw [e1, List.length_append]
        omega
    · have ih := best gs h c ws rest l hgs e2.symm
      have := used_mono (wide := wide) (h := h) (ws := ws)
      rw [e1, List.length_append]
      omega
end Lin
set_option Elab.async false
set_option linter.all false
set_option maxRecDepth 100000
set_option maxHeartbeats 1000000
namespace KW
open PySem L2 Lin PySem.W
open Tre (T)
def But (p : Addr) (H H' : Hp) : Prop := ∀ b u, b ≠ p → H b = some u → H' b = some u
theorem But.upd {p : Addr} {H H1 : Hp} {o : HO} (S : But p H H1) : But p H (upd H1 p o) := fun b u n e => by
  rw [upd_ne n]
  exact S b u n e
theorem atd {p : Addr} {H H' : Hp} (B : But p H H') {us us' : List V} (hp : H p = some (.lst us)) (hp' : H' p = some (.lst us')) : (∀ {v : V} {t : T}, At H v t → At H' v t) := fun {v t} h => by
  refine At.rec (motive_1 := fun v t _ => At H' v t) (motive_2 := fun vs ts _ => AtL H' vs ts) .non .bl .int .str ?_ ?_ ?_ .nil ?_ h
  · intro a vs ts e _ ih
    exact .tup (B _ _ (fun z => by rw [z, hp] at e; cases e) e) ih
  · intro a vs e
    by_cases z : a = p
    · rw [z]
      exact .lst hp'
    · exact .lst (B _ _ z e)
  · intro a kvs e
    exact .dic (B _ _ (fun z => by rw [z, hp] at e; cases e) e)
  · intro v t vs ts _ _ a b
    exact .cons a b
theorem atdL {p : Addr} {H H' : Hp} (B : But p H H') {us us' : List V} (hp : H p = some (.lst us)) (hp' : H' p = some (.lst us')) : ∀ {vs : List V} {ts : List T}, AtL H vs ts → AtL H' vs ts
  | _, _, .nil => .nil
  | _, _, .cons a b => .cons (atd B hp hp' a) (atdL B hp hp' b)
theorem But.same {p : Addr} {H0 H H' : Hp} (S : Same H0 H) (B : But p H H') (hn : H0 p = none) : Same H0 H' := fun b u e => B b u (fun z => by rw [z, hn] at e; cases e) (S b u e)
theorem But.refl {p : Addr} {H : Hp} : But p H H := fun _ _ _ e => e
theorem But.trans {p : Addr} {H H1 H2 : Hp} (a : But p H H1) (b : But p H1 H2) : But p H H2 := fun c u n e => b c u n (a c u n e)
theorem But.of {p : Addr} {H H1 : Hp} (S : Same H H1) : But p H H1 := fun c u _ e => S c u e
def spRooms (K : PySem.W.Frag) : Sp := fun vs H Q _ => ∃ (a : Addr) (ns : List Int), vs = [.ref a] ∧ SqL K H a (ns.map V.int) ∧ ∀ (l : Addr) (xs : List V) (rs : List Rm) (H' : Hp), Same H H' → H' l = some (.lst xs) → AtL H' xs (rs.map rT) → (∀ r ∈ rs, okR r) → 1 ≤ rs.length → rs.length ≤ 8 → Q (.ref l) H'
section
variable {P : Program} {w : World} {K : PySem.W.Frag} {mg : Str → Option Value} {base : Heap}
theorem scRooms : FnScope ["script", "found", "deck", "k"] ["script"] (defScope sRooms) := ⟨rfl, rfl, rfl, by decide +kernel, rfl, by decide +kernel, by decide +kernel⟩
theorem ok_rooms {f fC fT : Addr} {fd fdC fdT : FuncData} (F : Fun K "_law_rooms" "_law_rooms" sRooms f fd) (tr : mg "range" = none) (Ce : Callee P w K mg base CX0 1 "_law_cell_at" fC fdC ["script", "k"] (spCellAt K)) (Tk : Callee P w K mg base CX0 1 "_law_take" fT fdT ["deck", "many"] spTake) : FnOk P w K mg base CX0 2 f fd ["script"] (spRooms K) := by
  refine F.ok scRooms (fun vs H Q E h => ?_) (fun cdv A outer s H vs Q E hr h => ?_)
  · obtain ⟨a, ns, rfl, _⟩ := h
    rfl
  · obtain ⟨a, ns, rfl, hS, q⟩ := h
    refine ⟨_, (pss_cons (ps_set (i := 1) scRooms.nd rfl (Or.inl rfl) (pe_lst pa_nil))
      (pss_cons (ps_set (i := 2) scRooms.nd rfl (Or.inl rfl) (pe_lst (pa_cons (pe_call Ce.ok (hr.mono (show 1 ≤ 1 by decide)) rfl Ce.bound Ce.kp Ce.bd .nil pass0 (pa_cons (pv 0) (pa_cons pe_int pa_nil))) (pa_cons (pe_op op_mod (pe_call Ce.ok (hr.mono (show 1 ≤ 1 by decide)) rfl Ce.bound Ce.kp Ce.bd .nil pass0 (pa_cons (pv 0) (pa_cons pe_int pa_nil))) pe_int) (pa_cons pe_int pa_nil)))))
      (pss_cons (ps_for PassesOwn.never rfl (pi_range1 rfl tr (pa_cons (pe_op op_add pe_int (pe_call Tk.ok hr rfl Tk.bound Tk.kp Tk.bd .nil pass0 (pa_cons (pv 2) (pa_cons pe_int pa_nil)))) pa_nil)) (pg_name (i := 3) scRooms.nd rfl (Or.inl rfl))
      (pss_one (ps_expr (pe_bm PySem.F.plainAttrs_list PySem.F.slot_list_append PySem.F.type_list_append mt_append (pv 1) (pa_cons (pe_tup (pa_cons (pe_op op_add pe_int (pe_call Tk.ok hr rfl Tk.bound Tk.kp Tk.bd .nil pass0 (pa_cons (pv 2) (pa_cons pe_int pa_nil)))) (pa_cons (pe_op op_add pe_int (pe_call Tk.ok hr rfl Tk.bound Tk.kp Tk.bd .nil pass0 (pa_cons (pv 2) (pa_cons pe_int pa_nil)))) pa_nil))) pa_nil)))))
      (pss_one (ps_ret (pv 1)))))), ?_⟩
    refine ⟨by show 0 ≤ sizeLine; decide, fun l nl => ?_⟩
    have S1 := same_new (o := .lst []) nl
    have hl : (upd H l (.lst [])) l = some (.lst []) := upd_same
    generalize upd H l (.lst []) = H1 at S1 hl
    refine ⟨_, rfl, a, ns, 1, rfl, S1.seq hS, by decide, fun c1 => ?_⟩
    refine ⟨_, rfl, a, ns, 0, rfl, S1.seq hS, by decide, fun c0 => ?_⟩
    refine ⟨_, _, rfl, rfl, (by show (0 : Int) < 2; decide), by show 3 ≤ sizeLine; decide, fun p np => ?_⟩
    have S2 := S1.trans (same_new (o := .lst [.int c1, .int (c0 % 2), .int 0]) np)
    have hl2 := same_new (o := .lst [.int c1, .int (c0 % 2), .int 0]) np _ _ hl
    have hp : (upd H1 p (.lst [.int c1, .int (c0 % 2), .int 0])) p = some (deck c1 (c0 % 2) 0) := upd_same
    have fp : H p = none := S1.free np
    have lp : l ≠ p := ne_of_none hl np
    generalize upd H1 p (.lst [.int c1, .int (c0 % 2), .int 0]) = H2 at S2 hl2 hp
    refine ⟨_, rfl, p, c1, c0 % 2, 0, 8, rfl, hp, by decide, by decide, by decide, by decide, fun n a1 d1 n0 n8 z0 z1 => ?_⟩
    have S3 : Same H (upd H2 p (deck a1 (c0 % 2) d1)) := same_upd S2 fp
    have hl3 := (upd_ne (o := deck a1 (c0 % 2) d1) lp).trans hl2
    have hp3 : (upd H2 p (deck a1 (c0 % 2) d1)) p = some (deck a1 (c0 % 2) d1) := upd_same
    generalize upd H2 p (deck a1 (c0 % 2) d1) = H3 at S3 hl3 hp3
    obtain ⟨N, hN⟩ : ∃ N : Nat, (1 : Int) + n = N := ⟨(1 + n).toNat, by omega⟩
    refine ⟨_, _, rfl, rfl, _, rfl, by omega, by omega, ?_⟩
    rw [hN]
    refine for_range (lo := 0) (n := N) (fun i σ H4 => ∃ (o : Option V) (xs : List V) (rs : List Rm) (a2 d2 : Int), σ = [some (.ref a), some (.ref l), some (.ref p), o] ∧ Same H H4 ∧ H4 l = some (.lst xs) ∧ H4 p = some (deck a2 (c0 % 2) d2) ∧ 0 ≤ d2 ∧ d2 ≤ 1 + 2 * i ∧ AtL H4 xs (rs.map rT) ∧ (∀ r ∈ rs, okR r) ∧ rs.length = i)
      ⟨none, [], [], a1, d1, rfl, S3, hl3, hp3, z0, by omega, .nil, fun r hr => (List.not_mem_nil hr).elim, rfl⟩ ?_ ?_
    · rintro i σ H4 hi ⟨o, xs, rs, a2, d2, rfl, S4, hl4, hp4, y0, y1, hA, ok, lr⟩
      have lx := hA.len
      rw [List.length_map] at lx
      refine run_gname ?_
      refine ⟨_, rfl, .inl ⟨rfl, _, SqL.of hl4⟩, ?_⟩
      refine ⟨_, rfl, p, a2, c0 % 2, d2, 20, rfl, hp4, by decide, by decide, y0, by omega, fun n1 a3 d3 n10 n11 x0 x1 => ⟨_, _, rfl, rfl, ?_⟩⟩
      have S5 : Same H (upd H4 p (deck a3 (c0 % 2) d3)) := same_upd S4 fp
      have hl5 := (upd_ne (o := deck a3 (c0 % 2) d3) lp).trans hl4
      have hp5 : (upd H4 p (deck a3 (c0 % 2) d3)) p = some (deck a3 (c0 % 2) d3) := upd_same
      have A5 : AtL (upd H4 p (deck a3 (c0 % 2) d3)) xs (rs.map rT) := atdL (But.upd But.refl) hp4 hp5 hA
      generalize upd H4 p (deck a3 (c0 % 2) d3) = H5 at S5 hl5 hp5 A5
      refine ⟨_, rfl, p, a3, c0 % 2, d3, 6, rfl, hp5, by decide, by decide, x0, by omega, fun n2 a4 d4 n20 n21 w0 w1 => ⟨_, _, rfl, rfl, ?_⟩⟩
      have S6 : Same H (upd H5 p (deck a4 (c0 % 2) d4)) := same_upd S5 fp
      have hl6 := (upd_ne (o := deck a4 (c0 % 2) d4) lp).trans hl5
      have hp6 : (upd H5 p (deck a4 (c0 % 2) d4)) p = some (deck a4 (c0 % 2) d4) := upd_same
      have A6 : AtL (upd H5 p (deck a4 (c0 % 2) d4)) xs (rs.map rT) := atdL (But.upd But.refl) hp5 hp6 A5
      generalize upd H5 p (deck a4 (c0 % 2) d4) = H6 at S6 hl6 hp6 A6
      refine ⟨by show 2 ≤ sizeLine; decide, fun t nt => ?_⟩
      have S7 := S6.trans (same_new (o := .tup [.int (1 + n1), .int (1 + n2)]) nt)
      have ht : (upd H6 t (.tup [.int (1 + n1), .int (1 + n2)])) t = some (.tup [.int (1 + n1), .int (1 + n2)]) := upd_same
      have hl7 := same_new (o := .tup [.int (1 + n1), .int (1 + n2)]) nt _ _ hl6
      have hp7 := same_new (o := .tup [.int (1 + n1), .int (1 + n2)]) nt _ _ hp6
      have A7 := A6.same (same_new (o := .tup [.int (1 + n1), .int (1 + n2)]) nt)
      generalize upd H6 t (.tup [.int (1 + n1), .int (1 + n2)]) = H7 at S7 ht hl7 hp7 A7
      refine ⟨l, _, _, rfl, rfl, hl7, Nat.lt_of_le_of_lt (show xs.length ≤ 1000 by omega) (by decide), ?_⟩
      have A8 : AtL (upd H7 l (.lst (xs ++ [.ref t]))) (xs ++ [.ref t]) ((rs ++ [(1 + n1, 1 + n2)]).map rT) := by
        rw [List.map_append]
        refine atdL (But.upd But.refl) hl7 upd_same (A7.app (.cons (.tup ht (.cons (.int _) (.cons (.int _) .nil))) .nil))
      refine ⟨_, xs ++ [.ref t], rs ++ [(1 + n1, 1 + n2)], a4, d4, rfl, same_upd S7 nl, upd_same, (upd_ne (Ne.symm lp)).trans hp7, w0, by omega, A8, fun r hr => ?_, by rw [List.length_append, lr]; rfl⟩
      rcases List.mem_append.mp hr with m | m
      · exact ok r m
      · rw [List.mem_singleton.mp m]
        exact ⟨by show 1 ≤ 1 + n1; omega, by show 1 ≤ 1 + n2; omega⟩
    · rintro σ H4 ⟨o, xs, rs, a2, d2, rfl, S4, hl4, hp4, y0, y1, hA, ok, lr⟩
      exact ⟨_, rfl, q l xs rs H4 S4 hl4 hA ok (by omega) (by omega)⟩
end
end KW
set_option Elab.async false
set_option linter.all false
set_option maxRecDepth 100000
set_option maxHeartbeats 1000000
namespace KW
open PySem L2 Lin PySem.W
open Tre (T)
theorem pos_sl (ws : List W) (g : Nat) : ∀ n : Nat, g + n ≤ ws.length → sl ((ws.drop g).take n) = pos ws (g + n) - pos ws g
  | 0, _ => by
    rw [List.take_zero, Nat.add_zero]
    show (0 : Int) = _
    omega
  | n + 1, h => by
    have hk : g + n < ws.length := by omega
    have ps := pos_succ (List.getElem?_eq_getElem hk)
    have ih := pos_sl ws g n (by omega)
    have hd : n < (ws.drop g).length := by rw [List.length_drop]; omega
    rw [← List.take_append_getElem hd, sl_app, ih]
    have e : (ws.drop g)[n] = ws[g + n] := List.getElem_drop
    rw [e]
    show _ + ((ws[g + n].length : Int) + 1 + 0) = _
    rw [show g + (n + 1) = g + n + 1 from rfl, ps]
    omega
def Brk (ws : List W) (wide : Int) (F m c : Nat) : Prop := ∃ gs : List (List W), gs.flatten = (ws.drop F).take (m - F) ∧ gs.length ≤ c ∧ ∀ g ∈ gs, ((glue g).length : Int) ≤ wide
theorem Brk.zero {ws : List W} {wide : Int} {F : Nat} : Brk ws wide F F 0 := ⟨[], by rw [Nat.sub_self]; rfl, Nat.le_refl _, fun g hg => (List.not_mem_nil hg).elim⟩
theorem Brk.mono {ws : List W} {wide : Int} {F m c d : Nat} (h : Brk ws wide F m c) (z : c ≤ d) : Brk ws wide F m d := by
  obtain ⟨gs, a, b, e⟩ := h
  exact ⟨gs, a, Nat.le_trans b z, e⟩
theorem Brk.line {ws : List W} {wide : Int} {F g m c : Nat} (h : Brk ws wide F g c) (h1 : F ≤ g) (h2 : g < m) (h3 : m ≤ ws.length) (ft : pos ws m - pos ws g - 1 ≤ wide) : Brk ws wide F m (c + 1) := by
  obtain ⟨gs, a, b, e⟩ := h
  refine ⟨gs ++ [(ws.drop g).take (m - g)], ?_, by rw [List.length_append]; exact Nat.succ_le_succ b, fun z hz => ?_⟩
  · rw [List.flatten_append, a]
    show _ ++ ((ws.drop g).take (m - g) ++ []) = _
    rw [List.append_nil, show m - F = (g - F) + (m - g) by omega, List.take_add, List.drop_drop, show F + (g - F) = g by omega]
  · rcases List.mem_append.mp hz with y | y
    · exact e z y
    · rw [List.mem_singleton.mp y, glue_sl _ (fun q => by
        have := congrArg List.length q
        rw [List.length_take, List.length_drop, List.length_nil] at this
        omega), pos_sl ws g (m - g) (by omega), show g + (m - g) = m by omega]
      exact ft
theorem Brk.best {ws : List W} {wide : Int} {F U m h : Nat} (b : Brk ws wide F m h) (h1 : F ≤ U) (h2 : U ≤ ws.length) (h3 : F ≤ m) (h4 : m ≤ ws.length) : m ≤ U + used wide h (ws.drop U) := by
  obtain ⟨gs, a, l, e⟩ := b
  have sp : (ws.drop F).take (U - F) ++ ws.drop U = gs.flatten ++ (ws.drop F).drop (m - F) := by
    rw [a, List.take_append_drop]
    have : ws.drop U = (ws.drop F).drop (U - F) := by rw [List.drop_drop, show F + (U - F) = U by omega]
    rw [this, List.take_append_drop]
  have := Lin.best gs h _ _ _ l e sp
  rw [a, List.length_take, List.length_take, List.length_drop] at this
  omega
abbrev kk (n : Nat) : Key := Sum.inl (n : Int)
structure Tab (ws : List W) (wide : Int) (F L : Nat) (kvs : List (Key × V)) : Prop where
  nd : (kvs.map (·.1)).Nodup
  len : kvs.length ≤ L - F + 1
  key : ∀ k ∈ kvs.map (·.1), ∃ m : Nat, k = kk m
  snd : ∀ (m : Nat) (v : V), valV kvs (kk m) = some v → ∃ c : Nat, v = .int c ∧ F ≤ m ∧ m ≤ L ∧ Brk ws wide F m c
  cpl : ∀ j, F + used wide j (ws.drop F) ≤ L → ∃ c : Nat, valV kvs (kk (F + used wide j (ws.drop F))) = some (.int c) ∧ c ≤ j
theorem kk_inj {a b : Nat} (h : kk a = kk b) : a = b := by
  have := Sum.inl.inj h
  omega
theorem Tab.one {ws : List W} {wide : Int} {F : Nat} : Tab ws wide F F [(kk F, .int 0)] where
  nd := by simp
  len := by simp
  key := fun k hk => ⟨F, by simpa using hk⟩
  snd := fun m v h => by
    by_cases e : kk F = kk m
    · rw [valV_pos (p := (kk F, V.int 0)) e] at h
      cases h
      have := kk_inj e
      subst this
      exact ⟨0, rfl, Nat.le_refl _, Nat.le_refl _, Brk.zero⟩
    · rw [valV_neg (p := (kk F, V.int 0)) e] at h
      cases h
  cpl := fun j h => by
    have e : F + used wide j (ws.drop F) = F := by omega
    rw [e]
    exact ⟨0, valV_pos (p := (kk F, V.int 0)) rfl, Nat.zero_le _⟩
structure Mid (ws : List W) (wide : Int) (F M b : Nat) (kvs ks : List (Key × V)) : Prop where
  nd : (ks.map (·.1)).Nodup
  len : (valV ks (kk M) = none → ks.length ≤ M - F) ∧ ks.length ≤ M - F + 1
  key : ∀ k ∈ ks.map (·.1), ∃ m : Nat, k = kk m
  old : ∀ m : Nat, m ≠ M → valV ks (kk m) = valV kvs (kk m)
  snd : ∀ v, valV ks (kk M) = some v → ∃ c : Nat, v = .int c ∧ Brk ws wide F M c
  cpl : ∀ g c : Nat, b ≤ g → g < M → valV kvs (kk g) = some (.int c) → ∃ d : Nat, valV ks (kk M) = some (.int d) ∧ d ≤ c + 1
theorem Tab.none {ws : List W} {wide : Int} {F L : Nat} {kvs : List (Key × V)} (t : Tab ws wide F L kvs) : valV kvs (kk (L + 1)) = none := by
  cases e : valV kvs (kk (L + 1)) with
  | none => rfl
  | some v =>
    obtain ⟨_, _, _, z, _⟩ := t.snd _ _ e
    omega
theorem Tab.mid {ws : List W} {wide : Int} {F L : Nat} {kvs : List (Key × V)} (t : Tab ws wide F L kvs) (h : F ≤ L) : Mid ws wide F (L + 1) (L + 1) kvs kvs where
  nd := t.nd
  len := ⟨fun _ => by have := t.len; omega, by have := t.len; omega⟩
  key := t.key
  old := fun _ _ => rfl
  snd := fun v e => by rw [t.none] at e; cases e
  cpl := fun g c h1 h2 => absurd h2 (by omega)
theorem keys_put {kvs : List (Key × V)} {k : Key} {v : V} : (putK kvs k v).map (·.1) = if (valV kvs k).isSome then kvs.map (·.1) else kvs.map (·.1) ++ [k] := by
  unfold putK
  rw [valV_any]
  split
  · rw [List.map_map]
    refine List.map_congr_left fun p _ => ?_
    show (if p.1 = k then (p.1, v) else p).1 = p.1
    split <;> rfl
  · rw [List.map_append]
    rfl
theorem Mid.put {ws : List W} {wide : Int} {F M b g c : Nat} {kvs ks : List (Key × V)} (t : Mid ws wide F M b kvs ks) (hg : g + 1 = b) (e : valV kvs (kk g) = some (.int c)) (hB : Brk ws wide F M (c + 1)) (hM : F ≤ M) (hs : ∀ d : Nat, valV ks (kk M) = some (.int d) → c + 1 ≤ d) (gM : g < M) :
    Mid ws wide F M g kvs (putK ks (kk M) (.int ((c + 1 : Nat) : Int))) where
  nd := by
    cases z : valV ks (kk M) with
    | none => exact nd_putK _ t.nd z
    | some v =>
      rw [keys_put, z]
      exact t.nd
  len := by
    refine ⟨fun z => ?_, ?_⟩
    · rw [valV_put, if_pos rfl] at z
      cases z
    · cases z : valV ks (kk M) with
      | none =>
        have := t.len.1 z
        have := length_putK ks (kk M) (.int ((c + 1 : Nat) : Int))
        omega
      | some v =>
        have e1 : (putK ks (kk M) (.int ((c + 1 : Nat) : Int))).length = ks.length := by
          rw [← List.length_map (f := fun x : Key × V => x.1), keys_put, z]
          exact List.length_map _
        rw [e1]
        exact t.len.2
  key := fun k hk => by
    rw [keys_put] at hk
    split at hk
    · exact t.key k hk
    · rcases List.mem_append.mp hk with m | m
      · exact t.key k m
      · exact ⟨M, List.mem_singleton.mp m⟩
  old := fun m n => by
    rw [valV_put, if_neg (fun z => n (kk_inj z))]
    exact t.old m n
  snd := fun v z => by
    rw [valV_put, if_pos rfl] at z
    cases z
    exact ⟨c + 1, rfl, hB⟩
  cpl := fun g' c' h1 h2 h3 => by
    rw [valV_put, if_pos rfl]
    refine ⟨c + 1, rfl, ?_⟩
    by_cases z : g' = g
    · subst z
      rw [e] at h3
      have : (c : Int) = c' := V.int.inj (Option.some.inj h3)
      omega
    · obtain ⟨d, h4, h5⟩ := t.cpl g' c' (by omega) h2 h3
      have := hs d h4
      omega
theorem Mid.skip {ws : List W} {wide : Int} {F M b g : Nat} {kvs ks : List (Key × V)} (t : Mid ws wide F M b kvs ks) (hg : g + 1 = b) (h : ∀ c : Nat, valV kvs (kk g) = some (.int c) → ∃ d : Nat, valV ks (kk M) = some (.int d) ∧ d ≤ c + 1) : Mid ws wide F M g kvs ks where
  nd := t.nd
  len := t.len
  key := t.key
  old := t.old
  snd := t.snd
  cpl := fun g' c' h1 h2 h3 => by
    by_cases z : g' = g
    · subst z
      exact h c' h3
    · exact t.cpl g' c' (by omega) h2 h3
theorem Mid.tab {ws : List W} {wide : Int} {F L b : Nat} {kvs ks : List (Key × V)} (t : Tab ws wide F L kvs) (u : Mid ws wide F (L + 1) b kvs ks) (hL : L + 1 ≤ ws.length) (hF : F ≤ L) (stop : ∀ g, F ≤ g → g < b → ¬ pos ws (L + 1) - pos ws g - 1 ≤ wide) : Tab ws wide F (L + 1) ks where
  nd := u.nd
  len := by have := u.len.2; omega
  key := u.key
  snd := fun m v h => by
    by_cases z : m = L + 1
    · subst z
      obtain ⟨c, e, hb⟩ := u.snd v h
      exact ⟨c, e, by omega, Nat.le_refl _, hb⟩
    · rw [u.old m z] at h
      obtain ⟨c, e, h1, h2, hb⟩ := t.snd m v h
      exact ⟨c, e, h1, by omega, hb⟩
  cpl := fun j => by
    induction j with
    | zero =>
      intro _
      rw [used_zero, Nat.add_zero, u.old F (by omega)]
      have := t.cpl 0 (by rw [used_zero]; omega)
      rw [used_zero, Nat.add_zero] at this
      exact this
    | succ j ih =>
      intro hj
      by_cases z : F + used wide (j + 1) (ws.drop F) = L + 1
      · have un : used wide (j + 1) (ws.drop F) = used wide j (ws.drop F) + fit wide (-1) ((ws.drop F).drop (used wide j (ws.drop F))) := by
          rw [used_add, used_succ, used_zero]
          rfl
        by_cases f0 : fit wide (-1) ((ws.drop F).drop (used wide j (ws.drop F))) = 0
        · rw [f0, Nat.add_zero] at un
          rw [un]
          rw [un] at hj
          obtain ⟨c, h1, h2⟩ := ih hj
          exact ⟨c, h1, by omega⟩
        · have fs := fit_sl _ _ f0
          rw [List.drop_drop] at f0 fs un
          generalize hn : fit wide (-1) (ws.drop (F + used wide j (ws.drop F))) = n at f0 fs un
          have ps := pos_sl ws (F + used wide j (ws.drop F)) n (by omega)
          rw [ps, show F + used wide j (ws.drop F) + n = L + 1 by omega] at fs
          obtain ⟨c, h1, h2⟩ := t.cpl j (by omega)
          have gb : b ≤ F + used wide j (ws.drop F) := by
            apply Classical.byContradiction
            intro y
            refine stop (F + used wide j (ws.drop F)) (Nat.le_add_right _ _) (Nat.lt_of_not_le y) ?_
            have fs2 : -1 + (pos ws (L + 1) - pos ws (F + used wide j (ws.drop F))) ≤ wide := fs
            omega
          obtain ⟨d, h3, h4⟩ := u.cpl _ c gb (by omega) h1
          rw [z]
          exact ⟨d, h3, by omega⟩
      · obtain ⟨c, h1, h2⟩ := t.cpl (j + 1) (by omega)
        rw [u.old _ z]
        exact ⟨c, h1, h2⟩
theorem val_mem : ∀ {kvs : List (Key × V)} {kv : Key × V}, (kvs.map (·.1)).Nodup → kv ∈ kvs → valV kvs kv.1 = some kv.2
  | p :: r, kv, nd, h => by
    rw [List.map_cons, List.nodup_cons] at nd
    rcases List.mem_cons.mp h with e | e
    · rw [e]
      exact valV_pos rfl
    · rw [valV_neg (fun z => nd.1 (by rw [z]; exact List.mem_map.mpr ⟨kv, e, rfl⟩))]
      exact val_mem nd.2 e
theorem mem_val : ∀ {kvs : List (Key × V)} {k : Key} {v : V}, valV kvs k = some v → (k, v) ∈ kvs
  | [], k, v, h => by cases h
  | p :: r, k, v, h => by
    by_cases e : p.1 = k
    · rw [valV_pos e] at h
      cases h
      rw [← e]
      exact List.mem_cons_self
    · rw [valV_neg e] at h
      exact List.mem_cons_of_mem _ (mem_val h)
def nums (ms : List Nat) : List V := ms.map fun m : Nat => V.int (m : Int)
def spReach : Sp := fun vs H Q _ => ∃ (a : Addr) (ws : List W) (F : Nat) (wide high : Int), vs = [.ref a, .int F, .int wide, .int high] ∧ H a = some (.lst (tx ws)) ∧ (∀ u ∈ ws, okW u) ∧ ws.length ≤ 24 ∧ F ≤ ws.length ∧ 0 ≤ high ∧
  ∀ (l : Addr) (ms : List Nat) (H' : Hp), Same H H' → H' l = some (.lst (nums ms)) → ms.length ≤ 25 → (∀ m ∈ ms, F ≤ m ∧ m ≤ ws.length ∧ Brk ws wide F m high.toNat) → F + used wide high.toNat (ws.drop F) ∈ ms → Q (.ref l) H'
section
variable {P : Program} {w : World} {K : PySem.W.Frag} {mg : Str → Option Value} {base : Heap}
theorem scReach : FnScope ["words", "first", "wide", "high", "least", "last", "used", "begin"] ["words", "first", "wide", "high"] (defScope sReach) := ⟨rfl, rfl, rfl, by decide +kernel, rfl, by decide +kernel, by decide +kernel⟩
theorem ok_reach {f : Addr} {fd : FuncData} (F : Fun K "_law_reached" "_law_reached" sReach f fd) (tl : mg "len" = none) (tr : mg "range" = none) : FnOk P w K mg base CX0 1 f fd ["words", "first", "wide", "high"] spReach := by
  refine F.ok scReach (fun vs H Q E h => ?_) (fun cdv A outer s H vs Q E hr h => ?_)
  · obtain ⟨a, ws, F, wide, high, rfl, _⟩ := h
    rfl
  · obtain ⟨a, ws, F, wide, high, rfl, ha, hw, hn, hF, hh, q⟩ := h
    have hu := hu_of hr
    refine ⟨_, (pss_cons (ps_set (i := 4) scReach.nd rfl (Or.inr rfl) (pe_disp (pps_cons (pv 1) pe_int pps_nil) rfl rfl (by simp) (by decide)))
      (pss_cons (ps_for PassesOwn.never rfl (pi_range2 rfl tr (pa_cons (pe_op op_add (pv 1) pe_int) (pa_cons (pe_op op_add (pe_callB call_len_seq (by rfl) tl PySem.boot_len (pa_cons (pv 0) pa_nil)) pe_int) pa_nil))) (pg_name (i := 5) scReach.nd rfl (Or.inl rfl))
      (pss_cons (ps_set (i := 6) scReach.nd rfl (Or.inl rfl) (pe_un un_neg pe_int))
        (pss_cons (ps_set (i := 7) scReach.nd rfl (Or.inl rfl) (pv 5))
        (pss_one (ps_while PassesOwn.never (PW.pt (pw_and (pt_cmpR op_gt (pv 7) (pv 1) (nomark _)) (pw_and1 (pt_cmpR op_le (pe_op op_add (pe_op op_add (pv 6) pe_int) (pe_callB call_len_str (by rfl) tl PySem.boot_len (pa_cons (pe_ix ix_list (pv 0) (pe_op op_sub (pv 7) pe_int) (fun _ _ => rfl)) pa_nil))) (pv 2) (nomark _)))))
        (pss_cons (ps_set (i := 6) scReach.nd rfl (Or.inl rfl) (pe_op op_add (pe_op op_add (pv 6) pe_int) (pe_callB call_len_str (by rfl) tl PySem.boot_len (pa_cons (pe_ix ix_list (pv 0) (pe_op op_sub (pv 7) pe_int) (fun _ _ => rfl)) pa_nil))))
          (pss_cons (ps_set (i := 7) scReach.nd rfl (Or.inl rfl) (pe_op op_sub (pv 7) pe_int))
          (pss_one (ps_if (PW.pt (pw_and (pt_cmp (pc_din hu (pv 7) (pv 4))) (pw_and1 (PW.pt (pw_or (pt_cmp (pc_dnotin hu (pv 5) (pv 4))) (pw_or1 (pt_cmpR op_lt (pe_op op_add (pe_dget hu (pv 4) (pv 7) (fun _ _ => rfl)) pe_int) (pe_dget hu (pv 4) (pv 5) (fun _ _ => rfl)) (nomark _))))))))
          (pss_one (ps_dput hu (pv 4) (pv 5) (pe_op op_add (pe_dget hu (pv 4) (pv 7) (fun _ _ => rfl)) pe_int) rfl))
          pss_nil)))))))))
      (pss_one (ps_ret (pe_thaw (pe_comp (Nc := ["last", "least", "high"]) (ix := [none, some 4, some 3]) rfl rfl (by refine' pi_dict ?zz; case zz => exact (pv 4)) (fun _ _ _ _ _ => (pg_name (i := 0) (by show (["last", "least", "high"] : List Str).Nodup; decide +kernel) rfl (Or.inl rfl))) (fun _ _ _ _ _ => (pts_one (pt_cmpR op_le (pe_dget hu (pv 1) (pv 0) (fun _ _ => rfl)) (pv 2) (nomark _)))) (fun _ _ _ _ _ => (pv 0)))))))), ?_⟩
    refine fun d nd => ⟨_, rfl, ?_⟩
    have S0 := same_new (o := .dK []) nd
    have hd0 : (upd H d (.dK [])) d = some (.dK []) := upd_same
    refine ⟨hd0, [(kk F, .int 0)], rfl, (show 1 ≤ 15 by decide), ?_⟩
    have S1 : Same H (upd (upd H d (.dK [])) d (.dK (mergeK [] [(kk F, .int 0)]))) := same_upd S0 nd
    have hd1 : (upd (upd H d (.dK [])) d (.dK (mergeK [] [(kk F, .int 0)]))) d = some (.dK [(kk F, .int 0)]) := upd_same
    generalize upd (upd H d (.dK [])) d (.dK (mergeK [] [(kk F, .int 0)])) = H1 at S1 hd1
    refine ⟨_, rfl, _, _, rfl, rfl, _, rfl, _, _, rfl, .inl (SqL.of (S1 _ _ ha)), _, _, rfl, rfl, _, _, rfl, ⟨by omega, by omega, by rw [tx_len]; omega, by rw [tx_len]; omega⟩, ?_⟩
    have eN : ((((tx ws).length : Nat) : Int) + 1 - ((F : Int) + 1)).toNat = ws.length - F := by rw [tx_len]; omega
    rw [eN]
    refine for_range (lo := (F : Int) + 1) (n := ws.length - F) (fun i σ H2 => ∃ (o5 o6 o7 : Option V) (kvs : List (Key × V)), σ = [some (.ref a), some (.int (F : Int)), some (.int wide), some (.int high), some (.ref d), o5, o6, o7] ∧ Same H H2 ∧ H2 d = some (.dK kvs) ∧ Tab ws wide F (F + i) kvs)
      ⟨none, none, none, _, rfl, S1, hd1, Tab.one⟩ ?_ ?_
    · rintro i σ H2 hi ⟨o5, o6, o7, kvs, rfl, S2, hd2, tb⟩
      have ha2 := S2 _ _ ha
      refine run_gname ?_
      have ec : (F : Int) + 1 + (i : Int) = ((F + i + 1 : Nat) : Int) := by omega
      rw [ec]
      have hM : F + i + 1 ≤ ws.length := by omega
      have hFL : F ≤ F + i := Nat.le_add_right _ _
      refine seq_asg evl_neg1 ?_
      refine seq_asg (evl_var rfl) ?_
      refine while_n (fun b σ H3 => ∃ ks : List (Key × V), σ = [some (.ref a), some (.int (F : Int)), some (.int wide), some (.int high), some (.ref d), some (.int ((F + i + 1 : Nat) : Int)), some (.int (pos ws (F + i + 1) - pos ws b - 1)), some (.int (b : Int))] ∧ F ≤ b ∧ b ≤ F + i + 1 ∧ Same H H3 ∧ H3 d = some (.dK ks) ∧ Mid ws wide F (F + i + 1) b kvs ks) (F + i + 1)
        ⟨kvs, by rw [show pos ws (F + i + 1) - pos ws (F + i + 1) - 1 = -1 by omega]; rfl, by omega, Nat.le_refl _, S2, hd2, tb.mid hFL⟩ ?_
      rintro b σ H3 ⟨ks, rfl, hb1, hb2, S3, hd3, md⟩
      have ha3 := S3 _ _ ha
      obtain ⟨v, hv⟩ : ∃ v, v = ws.getD (b - 1) [] := ⟨_, rfl⟩
      have ev : F < b → ws[b - 1]? = some v := fun h => by
        rw [hv, List.getD_eq_getElem?_getD, List.getElem?_eq_getElem (by omega)]
        rfl
      have at_ : F < b → atI (tx ws) ((b : Int) - 1) = some (.str (txt v)) := fun h => by
        rw [show (b : Int) - 1 = ((b - 1 : Nat) : Int) by omega]
        exact atI_nat (tx_get (ev h))
      have v12 : F < b → v.length ≤ 1000000 := fun h => Nat.le_trans (hw v (List.mem_of_getElem? (ev h))).2.1 (by decide)
      have pv : F < b → pos ws b = pos ws (b - 1) + v.length + 1 := fun h => by
        have := pos_succ (ev h)
        rwa [show b - 1 + 1 = b by omega] at this
      refine ⟨(F : Int) < (b : Int) ∧ pos ws (F + i + 1) - pos ws b - 1 + 1 + (v.length : Int) ≤ wide, inferInstance, tst_andL (tst_of (evl_I0 (evl_var rfl) (evl_var rfl))) (fun h => tst_of (evl_I0 (evl_I0 (evl_I0 (evl_var rfl) evl_c) (evl_lenS (evl_ixL (evl_var rfl) (evl_I0 (evl_var rfl) evl_c) (SqL.of ha3) (at_ (by omega))) (v12 (by omega)))) (evl_var rfl))), fun h => ?_, fun h => ?_⟩
      · have f0 : F < b := by omega
        obtain ⟨g, rfl⟩ : ∃ g, b = g + 1 := ⟨b - 1, by omega⟩
        have pg := pv f0
        rw [show g + 1 - 1 = g from rfl] at pg
        refine seq_asg (evl_I0 (evl_I0 (evl_var rfl) evl_c) (evl_lenS (evl_ixL (evl_var rfl) (evl_I0 (evl_var rfl) evl_c) (SqL.of ha3) (at_ f0)) (v12 f0))) ?_
        refine seq_asg (evl_I0 (evl_var rfl) evl_c) ?_
        have e2 : ((g + 1 : Nat) : Int) - 1 = (g : Int) := by omega
        have e1 : pos ws (F + i + 1) - pos ws (g + 1) - 1 + 1 + (v.length : Int) = pos ws (F + i + 1) - pos ws g - 1 := by omega
        rw [e1, e2]
        have ft : pos ws (F + i + 1) - pos ws g - 1 ≤ wide := by omega
        have gM : g ≠ F + i + 1 := by omega
        have og := md.old g gM
        have skip : (∀ c : Nat, valV kvs (kk g) = some (.int c) → ∃ dd : Nat, valV ks (kk (F + i + 1)) = some (.int dd) ∧ dd ≤ c + 1) → ∃ m', m' < g + 1 ∧ ∃ ks : List (Key × V), ([some (.ref a), some (.int (F : Int)), some (.int wide), some (.int high), some (.ref d), some (.int ((F + i + 1 : Nat) : Int)), some (.int (pos ws (F + i + 1) - pos ws g - 1)), some (.int (g : Int))] : St) = [some (.ref a), some (.int (F : Int)), some (.int wide), some (.int high), some (.ref d), some (.int ((F + i + 1 : Nat) : Int)), some (.int (pos ws (F + i + 1) - pos ws m' - 1)), some (.int (m' : Int))] ∧ F ≤ m' ∧ m' ≤ F + i + 1 ∧ Same H H3 ∧ H3 d = some (.dK ks) ∧ Mid ws wide F (F + i + 1) m' kvs ks := fun hz => ⟨g, Nat.lt_succ_self _, ks, rfl, by omega, by omega, S3, hd3, md.skip rfl hz⟩
        have put : ∀ c : Nat, valV kvs (kk g) = some (.int c) → (∀ dd : Nat, valV ks (kk (F + i + 1)) = some (.int dd) → c + 1 ≤ dd) → ∃ m', m' < g + 1 ∧ ∃ ks2 : List (Key × V), ([some (.ref a), some (.int (F : Int)), some (.int wide), some (.int high), some (.ref d), some (.int ((F + i + 1 : Nat) : Int)), some (.int (pos ws (F + i + 1) - pos ws g - 1)), some (.int (g : Int))] : St) = [some (.ref a), some (.int (F : Int)), some (.int wide), some (.int high), some (.ref d), some (.int ((F + i + 1 : Nat) : Int)), some (.int (pos ws (F + i + 1) - pos ws m' - 1)), some (.int (m' : Int))] ∧ F ≤ m' ∧ m' ≤ F + i + 1 ∧ Same H (upd H3 d (.dK (putK ks (kk (F + i + 1)) (.int ((c : Int) + 1))))) ∧ (upd H3 d (.dK (putK ks (kk (F + i + 1)) (.int ((c : Int) + 1))))) d = some (.dK ks2) ∧ Mid ws wide F (F + i + 1) m' kvs ks2 := fun c hc hs => by
          obtain ⟨c', ec', _, _, hB⟩ := tb.snd g _ hc
          have ecc : (c : Int) = c' := V.int.inj ec'
          have ecc : c = c' := by omega
          subst ecc
          exact ⟨g, Nat.lt_succ_self _, putK ks (kk (F + i + 1)) (.int ((c + 1 : Nat) : Int)), rfl, by omega, by omega, same_upd S3 nd, upd_same, md.put rfl hc (hB.line (by omega) (by omega) hM ft) (by omega) hs (by omega)⟩
        refine ⟨_, rfl, _, rfl, d, _, rfl, DGet.k (k := kk g) hd3, _, rfl, ?_⟩
        rw [og]
        cases hc0 : valV kvs (kk g) with
        | none => exact iteF (iteF (skip fun c z => by rw [hc0] at z; cases z))
        | some vc =>
          obtain ⟨c, rfl, _, _, _⟩ := tb.snd g _ hc0
          refine iteT ?_
          refine ⟨_, rfl, _, rfl, d, _, rfl, DGet.k (k := kk (F + i + 1)) hd3, _, rfl, ?_⟩
          cases hc1 : valV ks (kk (F + i + 1)) with
          | none =>
            refine iteT (iteT ?_)
            exact ⟨_, rfl, _, rfl, d, _, rfl, (by have z := DGet.k (k := kk g) hd3; rw [og, hc0] at z; exact z), _, _, rfl, rfl, _, rfl, _, rfl, d, _, rfl, DPut.k (k := kk (F + i + 1)) hd3 (by have := md.len.2; exact Nat.lt_of_le_of_lt (show ks.length ≤ 100 by omega) (by decide)), put c hc0 fun dd z => by rw [hc1] at z; cases z⟩
          | some vd =>
            obtain ⟨dd, rfl, _⟩ := md.snd _ hc1
            refine iteF ?_
            refine ⟨_, rfl, _, rfl, d, _, rfl, (by have z := DGet.k (k := kk g) hd3; rw [og, hc0] at z; exact z), _, _, rfl, rfl, _, rfl, _, rfl, d, _, rfl, (by have z := DGet.k (k := kk (F + i + 1)) hd3; rw [hc1] at z; exact z), _, _, rfl, rfl, _, rfl, ?_⟩
            by_cases lt : (c : Int) + 1 < (dd : Int)
            · rw [decide_eq_true lt]
              refine iteT ?_
              exact ⟨_, rfl, _, rfl, d, _, rfl, (by have z := DGet.k (k := kk g) hd3; rw [og, hc0] at z; exact z), _, _, rfl, rfl, _, rfl, _, rfl, d, _, rfl, DPut.k (k := kk (F + i + 1)) hd3 (by have := md.len.2; exact Nat.lt_of_le_of_lt (show ks.length ≤ 100 by omega) (by decide)), put c hc0 fun d2 z => by
                rw [hc1] at z
                have : (dd : Int) = d2 := V.int.inj (Option.some.inj z)
                omega⟩
            · rw [decide_eq_false lt]
              refine iteF (skip fun c2 z => ⟨dd, hc1, ?_⟩)
              rw [hc0] at z
              have : (c : Int) = c2 := V.int.inj (Option.some.inj z)
              omega
      · refine ⟨_, _, _, ks, rfl, S3, hd3, Mid.tab tb md hM hFL fun g g1 g2 z => h ?_⟩
        have z : pos ws (F + i + 1) - pos ws g - 1 ≤ wide := z
        have := pv (by omega)
        have := pos_mono ws (show g ≤ b - 1 by omega)
        exact ⟨by omega, by omega⟩
    · rintro σ H2 ⟨o5, o6, o7, kvs, rfl, S2, hd2, tb⟩
      rw [show F + (ws.length - F) = ws.length by omega] at tb
      refine ⟨_, rfl, d, kvs, rfl, hd2, fun ob nf => ?_⟩
      have hfz : (upd H2 d (.frz ob (.dK kvs))) d = some (.frz ob (.dK kvs)) := upd_same
      have hoff : ∀ b u, b ≠ d → H2 b = some u → (upd H2 d (.frz ob (.dK kvs))) b = some u := fun b u n e => by rw [upd_ne n]; exact e
      have back : ∀ u, upd (upd H2 d (.frz ob (.dK kvs))) d u = upd H2 d u := fun u => by
        funext b
        unfold upd
        split <;> rfl
      generalize hG : upd H2 d (.frz ob (.dK kvs)) = G at hfz hoff back
      have lk := tb.len
      have dH : H d = none := nd
      have Sg : Same H G := fun b u e => by
        have nb : b ≠ d := fun z => by rw [z, dH] at e; cases e
        exact hoff b u nb (S2 b u e)
      have kmem : ∀ kv ∈ kvs, ∃ m c : Nat, kv = (kk m, V.int c) ∧ valV kvs (kk m) = some (.int c) ∧ F ≤ m ∧ m ≤ ws.length ∧ Brk ws wide F m c := fun kv hkv => by
        obtain ⟨m, hm⟩ := tb.key kv.1 (List.mem_map.mpr ⟨kv, hkv, rfl⟩)
        have hval := val_mem tb.nd hkv
        rw [hm] at hval
        obtain ⟨c, h1, h2, h3, h4⟩ := tb.snd m _ hval
        refine ⟨m, c, ?_, by rw [← h1]; exact hval, h2, h3, h4⟩
        rw [← hm, ← h1]
      refine cmp_dict (ob := ob) (kvs := kvs) (a := d) (fun j ys σ H' => ∃ ms : List Nat, ys = nums ms ∧ ms.length ≤ j ∧ H' = G ∧ (∃ o, σ = [o, some (.ref d), some (.int high)]) ∧ (∀ m ∈ ms, F ≤ m ∧ m ≤ ws.length ∧ Brk ws wide F m high.toNat) ∧ ∀ m c : Nat, (kk m, V.int c) ∈ kvs.take j → (c : Int) ≤ high → m ∈ ms)
        ⟨[], rfl, Nat.le_refl _, rfl, ⟨none, rfl⟩, fun m hm => (List.not_mem_nil hm).elim, fun m c hm => by rw [List.take_zero] at hm; exact (List.not_mem_nil hm).elim⟩
        (fun j ys σ H' hj ⟨ms, e, l1, e2, _⟩ => ⟨by rw [e]; unfold nums; rw [List.length_map]; exact Nat.le_trans (show ms.length ≤ 100 by omega) (by decide), by rw [e2]; exact hfz⟩) ?_ ?_
      · rintro ys σ H' ⟨ms, rfl, l1, rfl, _, ok, all⟩ l nl
        refine ⟨d, ob, kvs, (by rw [upd_ne (fun z => by rw [← z, hfz] at nl; cases nl)]; exact hfz), nf, ?_⟩
        have hl : H' l = none := nl
        have ld : l ≠ d := fun z => by rw [z, hfz] at nl; cases nl
        have S9 : Same H (upd (upd H' l (.lst (nums ms))) d (.dK kvs)) := same_upd (Sg.trans (same_new nl)) nd
        refine q l ms _ S9 ((upd_ne ld).trans upd_same) (by omega) ok ?_
        rw [List.take_length] at all
        obtain ⟨c, h1, h2⟩ := tb.cpl high.toNat (by
          have := used_le (wide := wide) (h := high.toNat) (ws := ws.drop F)
          rw [List.length_drop] at this
          omega)
        exact all _ c (mem_val h1) (by omega)
      · rintro j kv ys σ H' hkv ⟨ms, rfl, l1, rfl, ⟨o, rfl⟩, ok, all⟩
        obtain ⟨m, c, rfl, hval, h2, h3, h4⟩ := kmem kv (List.mem_of_getElem? hkv)
        obtain ⟨hjl, ej⟩ := List.getElem?_eq_some_iff.mp hkv
        dsimp only [gName]
        refine ⟨_, rfl, _, rfl, d, .int c, rfl, .inl ⟨kvs, kk m, .inr ⟨ob, hfz⟩, rfl, hval.symm⟩, _, rfl, _, _, rfl, rfl, _, rfl, ?_⟩
        have mem : ∀ m' c' : Nat, (kk m', V.int c') ∈ kvs.take (j + 1) → (kk m', V.int c') ∈ kvs.take j ∨ (m' = m ∧ c' = c) := fun m' c' h => by
          rw [← List.take_append_getElem hjl, ej] at h
          rcases List.mem_append.mp h with z | z
          · exact .inl z
          · have z := List.mem_singleton.mp z
            have e1 := kk_inj (congrArg Prod.fst z)
            have e2 : (c' : Int) = c := V.int.inj (congrArg Prod.snd z)
            exact .inr ⟨e1, by omega⟩
        by_cases le : (c : Int) ≤ high
        · rw [decide_eq_true le]
          refine iteT ⟨_, rfl, ms ++ [m], ?_, by rw [List.length_append]; exact Nat.succ_le_succ l1, rfl, ⟨_, rfl⟩, fun z hz => ?_, fun m' c' hm hc' => ?_⟩
          · unfold nums
            rw [List.map_append]
            rfl
          · rcases List.mem_append.mp hz with y | y
            · exact ok z y
            · rw [List.mem_singleton.mp y]
              exact ⟨h2, h3, h4.mono (by omega)⟩
          · rcases mem m' c' hm with y | ⟨y, _⟩
            · exact List.mem_append_left _ (all m' c' y hc')
            · rw [y]
              simp
        · rw [decide_eq_false le]
          refine iteF ⟨ms, rfl, by omega, rfl, ⟨_, rfl⟩, ok, fun m' c' hm hc' => ?_⟩
          rcases mem m' c' hm with y | ⟨_, y⟩
          · exact all m' c' y hc'
          · rw [y] at hc'
            exact absurd hc' le
end
end KW
set_option Elab.async false
set_option linter.all false
set_option maxRecDepth 100000
set_option maxHeartbeats 1000000
namespace L2
open PySem PySem.Spec PyProof.Rows PySem.Builtin PySem.Builtin.Str Lin
theorem split_ne (x y : Str) : Txt.split x y ≠ [] := by
  unfold Txt.split
  split
  · simp
  · split
    · simp
    · rw [StrLaws.partsBetween_eq]
      obtain ⟨p, q, e⟩ := StrLaws.partsFrom_ne x y.length 0 (occurrences x y 0 x.length (x.length + 1))
      rw [e]
      simp
theorem split_glueG {ws : List W} (hn : ws ≠ []) (hw : ∀ w ∈ ws, 32 ∉ w) : Txt.split (txt (glue ws)) (txt [32]) = ws.map txt := by
  have j := StrLaws.join_split (txt (glue ws)) (txt [32])
  have fr := StrLaws.split_free (txt (glue ws)) 32
  have fr : ∀ p ∈ Txt.split (txt (glue ws)) (txt [32]), 32 ∉ p.cps.toList := fr
  have nn : Txt.split (txt (glue ws)) (txt [32]) ≠ [] := split_ne _ _
  generalize Txt.split (txt (glue ws)) (txt [32]) = ps at j fr nn
  have e : (ps.map fun p => p.cps.toList).map txt = ps := by
    rw [List.map_map]
    conv => rhs; rw [← List.map_id ps]
    exact List.map_congr_left fun p _ => txt_toList p
  rw [← e, join_glue] at j
  have j := txt_inj j
  have ne : (ps.map fun p => p.cps.toList) ≠ [] := fun z => nn (List.map_eq_nil_iff.mp z)
  have q := glue_inj _ _ ne hn (fun a ha => by
    obtain ⟨p, hp, rfl⟩ := List.mem_map.mp ha
    exact fr p hp) (fun b hb => hw b hb) j
  rw [← q, e]
section
variable {X : Cx}
theorem mt_splitG : MtR X "str.split" (fun x vs H Q => ∃ ws : List W, x = .str (txt (glue ws)) ∧ vs = [.str " "] ∧ ws ≠ [] ∧ (∀ w ∈ ws, 32 ∉ w) ∧ (glue ws).length ≤ 1000000 ∧ ws.length ≤ 1000000 ∧ ∀ l, H l = none → Q (.ref l) (upd H l (.lst (ws.map fun w => V.str (txt w))))) := by
  intro pins s σ H x xs v us Q I rx rxs h
  obtain ⟨ws, rfl, rfl, hn, hw, hl, hl2, q⟩ := h
  obtain ⟨t, rfl⟩ := rx
  obtain ⟨z, rfl, u, rfl⟩ := vals1 rxs
  have eb : (" " : Str) = txt [32] := by decide +kernel
  rw [eb]
  have hs := split_glueG hn hw
  have hx : (txt (glue ws)).length ≤ 1000000 := by rw [txt_len]; exact hl
  have big : (1000002 : Nat) ≤ sizeLine := by decide
  generalize txt (glue ws) = x at hs hx
  have hy : ((txt [32]).length == 0) = false := by decide +kernel
  have fin : ∀ (l : List (Str × Tok)) (k : Nat), l.map (·.1) = Txt.split x (txt [32]) → EP X pins σ Q (.ref s.heap.objs.size) { s with heap := s.heap.push { cls := .type "list", data := .seq (strValues l).toArray }, toks := k } := fun l k e =>
    ⟨.ref s.heap.objs.size, _, I.laid (t' := k) (fun b u e => Heap.get?_push_of_some _ e) (Nat.le_refl _) (show ObjOk X.prog X.w _ _ _ (.lst (ws.map fun w => V.str (txt w))) from ⟨by rw [List.length_map]; omega, strValues l, _, vals_strs (e.trans hs), Heap.get?_push_size _ rfl⟩), rfl, q _ (I.hok.fresh (Nat.le_refl _))⟩
  have hnn : (partsBetween x (occurrences x (txt [32]) 0 x.length (x.length + 1)) (txt [32]).length).length ≤ sizeLine := by
    have e1 := StrLaws.occ_length_le x (txt [32]) 0 x.length (x.length + 1)
    rw [length_partsBetween]
    omega
  cases h1 : (decide (x.length < (txt [32]).length) || decide (strKind x < strKind (txt [32])))
  · cases hf : (occurrences x (txt [32]) 0 x.length (x.length + 1)).isEmpty
    · refine call_meets F.slot_str_split (typeIs_str _ _ _) F.entry_str_split (F.args_str_split_2 _ _) (meets_str_split_sep x (txt [32]) t u h1 hy hf (by omega) hnn) ?_
      show wants _ _ _ { s with toks := _, heap := s.heap.push { cls := .type "list", data := .seq (strsFrom s.toks (partsBetween x (occurrences x (txt [32]) 0 x.length (x.length + 1)) (txt [32]).length)).toArray } }
      rw [strsFrom_eq]
      exact fin (numbered s.toks _) _ ((numbered_texts _ _).trans ((if_neg (ne_true_of_eq_false h1)).trans (if_neg (ne_true_of_eq_false hf))).symm)
    · exact call_meets F.slot_str_split (typeIs_str _ _ _) F.entry_str_split (F.args_str_split_2 _ _) (meets_str_split_not_found x (txt [32]) t u h1 hy hf)
        (fin [(x, t)] s.toks ((if_neg (ne_true_of_eq_false h1)).trans (if_pos hf)).symm)
  · exact call_meets F.slot_str_split (typeIs_str _ _ _) F.entry_str_split (F.args_str_split_2 _ _) (meets_str_split_cannot_occur x (txt [32]) t u h1)
      (fin [(x, t)] s.toks (if_pos h1).symm)
end
end L2
set_option Elab.async false
set_option linter.all false
set_option maxRecDepth 100000
set_option maxHeartbeats 1000000
namespace KW
open PySem L2 Lin PySem.W
open Tre (T)
theorem few (L : Int) : (if (if L - 2 > 0 then L - 2 else 0) < 24 then (if L - 2 > 0 then L - 2 else 0) else 24) ≤ 24 ∧ 0 ≤ (if (if L - 2 > 0 then L - 2 else 0) < 24 then (if L - 2 > 0 then L - 2 else 0) else 24) := by
  by_cases c : L - 2 > 0
  · rw [if_pos c]
    split <;> omega
  · rw [if_neg c, if_pos (by decide)]
    omega
theorem ints_of {ns : List Int} : ∀ {ys : List V}, (∀ y ∈ ys, y ∈ ns.map V.int) → ∃ ms : List Int, ys = ms.map V.int
  | [], _ => ⟨[], rfl⟩
  | y :: ys, h => by
    obtain ⟨n, _, rfl⟩ := List.mem_map.mp (h y List.mem_cons_self)
    obtain ⟨ms, rfl⟩ := ints_of (ys := ys) fun z hz => h z (List.mem_cons_of_mem _ hz)
    exact ⟨n :: ms, rfl⟩
theorem nd_len : ∀ (n : Nat) (ks : List Nat), ks.Nodup → (∀ k ∈ ks, k < n) → ks.length ≤ n
  | 0, [], _, _ => Nat.le_refl _
  | 0, k :: ks, _, h => absurd (h k List.mem_cons_self) (Nat.not_lt_zero _)
  | n + 1, ks, nd, h => by
    by_cases m : n ∈ ks
    · have l := List.length_erase_of_mem m
      have := nd_len n (ks.erase n) (nd.erase n) fun k hk => by
        have := nd.mem_erase_iff.mp hk
        have := h k this.2
        omega
      omega
    · exact Nat.le_succ_of_le (nd_len n ks nd fun k hk => by
        have := h k hk
        have : k ≠ n := fun z => m (z ▸ hk)
        omega)
def Ky (kvs : List (Key × V)) (ks : List Nat) : Prop := kvs.map (·.1) = ks.map kk
theorem Ky.len {kvs : List (Key × V)} {ks : List Nat} (h : Ky kvs ks) : kvs.length = ks.length := by
  have := congrArg List.length h
  rwa [List.length_map, List.length_map] at this
theorem Ky.put {kvs : List (Key × V)} {ks : List Nat} {v : V} {m : Nat} (h : Ky kvs ks) (nd : ks.Nodup) : ∃ ks', Ky (putK kvs (kk m) v) ks' ∧ ks'.Nodup ∧ (∀ k, k ∈ ks' ↔ k ∈ ks ∨ k = m) := by
  cases e : valV kvs (kk m) with
  | none =>
    have nm : m ∉ ks := fun z => valV_not e (by rw [h]; exact List.mem_map.mpr ⟨m, z, rfl⟩)
    refine ⟨ks ++ [m], ?_, List.nodup_append.mpr ⟨nd, by simp, fun a ha b hb => by rw [List.mem_singleton.mp hb]; exact fun z => nm (z ▸ ha)⟩, fun k => by simp⟩
    unfold Ky
    rw [keys_put, e, h, List.map_append]
    rfl
  | some u =>
    have im : m ∈ ks := by
      have := valV_in e
      rw [h] at this
      obtain ⟨z, hz, ez⟩ := List.mem_map.mp this
      rw [← kk_inj ez]
      exact hz
    refine ⟨ks, ?_, nd, fun k => ⟨.inl, fun z => z.elim id fun z => z ▸ im⟩⟩
    unfold Ky
    rw [keys_put, e, h]
    rfl
theorem last_max {ms : List Int} {U : Int} (h1 : ms.Pairwise (· ≤ ·)) (h2 : U ∈ ms) (h3 : ∀ m ∈ ms, m ≤ U) : ∃ r, ms = r ++ [U] := by
  have hn : ms ≠ [] := fun z => by rw [z] at h2; exact (List.not_mem_nil h2).elim
  have sp := (List.dropLast_concat_getLast hn).symm
  have l1 := h3 _ (List.getLast_mem hn)
  have l2 : U ≤ ms.getLast hn := by
    rw [sp] at h1 h2
    rcases List.mem_append.mp h2 with m | m
    · exact (List.pairwise_append.mp h1).2.2 U m _ (by simp)
    · rw [List.mem_singleton.mp m]
      exact Int.le_refl _
  have e : ms.getLast hn = U := Int.le_antisymm l1 l2
  exact ⟨ms.dropLast, by rw [← e]; exact sp⟩
theorem fold_ex (ws : List W) : ∀ (rs : List Rm) (p : List (List (List W)) × Nat), ∃ r, (rs.foldl (step ws) p).1 = p.1 ++ r
  | [], p => ⟨[], by simp⟩
  | q :: rs, p => by
    obtain ⟨r, e⟩ := fold_ex ws rs (step ws p q)
    refine ⟨lns q.1 q.2.toNat (ws.drop p.2) :: r, ?_⟩
    show (rs.foldl (step ws) (step ws p q)).1 = _
    rw [e]
    show (p.1 ++ [_]) ++ r = _
    rw [List.append_assoc]
    rfl
theorem fold_len (ws : List W) : ∀ (rs : List Rm) (p : List (List (List W)) × Nat), (rs.foldl (step ws) p).1.length = p.1.length + rs.length
  | [], p => rfl
  | r :: rs, p => by
    show (rs.foldl (step ws) (step ws p r)).1.length = _
    rw [fold_len ws rs]
    show (p.1 ++ [_]).length + rs.length = _
    rw [List.length_append, List.length_cons, List.length_cons, List.length_nil]
    omega
theorem pour_len (ws : List W) (rs : List Rm) : (pour ws rs).1.length = rs.length := by
  unfold pour
  rw [fold_len]
  exact Nat.zero_add _
theorem pour_get {ws : List W} {rs : List Rm} {i : Nat} {r : Rm} (h : rs[i]? = some r) : (pour ws rs).1[i]? = some (lns r.1 r.2.toNat (ws.drop (pour ws (rs.take i)).2)) := by
  obtain ⟨hi, e⟩ := List.getElem?_eq_some_iff.mp h
  have e1 : pour ws (rs.take (i + 1)) = step ws (pour ws (rs.take i)) r := by rw [← List.take_append_getElem hi, e, pour_snoc]
  obtain ⟨q, e2⟩ := fold_ex ws (rs.drop (i + 1)) (pour ws (rs.take (i + 1)))
  have e3 : (rs.drop (i + 1)).foldl (step ws) (pour ws (rs.take (i + 1))) = pour ws rs := by
    unfold pour
    rw [← List.foldl_append, List.take_append_drop]
  rw [e3, e1] at e2
  rw [e2]
  show ((pour ws (rs.take i)).1 ++ [lns r.1 r.2.toNat (ws.drop (pour ws (rs.take i)).2)] ++ q)[i]? = _
  have l : (pour ws (rs.take i)).1.length = i := by rw [pour_len, List.length_take]; omega
  rw [List.append_assoc, List.getElem?_append_right (by omega), l, Nat.sub_self]
  rfl
theorem Rs.get {H : Hp} : ∀ {ps : List Addr} {gs : List (List (List W))} {i : Nat} {g : List (List W)}, Rs H ps gs → gs[i]? = some g → ∃ p, ps[i]? = some p ∧ H p = some (.lst (tx (g.map glue)))
  | _, _, _, _, .nil, e => by simp at e
  | _, _, 0, _, .cons h _, e => by simp at e; subst e; exact ⟨_, rfl, h⟩
  | _, _, i + 1, p, .cons _ t, e => by
    obtain ⟨g, h1, h2⟩ := Rs.get (i := i) (g := p) t (by simpa using e)
    exact ⟨g, by simpa using h1, h2⟩
theorem Rs.len {H : Hp} : ∀ {ps : List Addr} {gs : List (List (List W))}, Rs H ps gs → ps.length = gs.length
  | _, _, .nil => rfl
  | _, _, .cons _ t => by rw [List.length_cons, List.length_cons, Rs.len t]
theorem eqR_true {K : PySem.W.Frag} {H : Hp} {n : Nat} {x y : V} {b : Bool} (h : EqR K H n x y b) (e : b = true) : EqR K H n x y true := e ▸ h
theorem eq_tx {K : PySem.W.Frag} {H : Hp} {n : Nat} {a b : Addr} {ws : List W} (ha : SqL K H a (tx ws)) (hb : SqL K H b (tx ws)) : EqR K H (n + 1) (.ref a) (.ref b) true := by
  have fl : ∀ j, j < (tx ws).length → flatV ((tx ws).getD j .non) = true := fun j hj => by
    rw [tx_len] at hj
    rw [List.getD_eq_getElem?_getD, tx_get (List.getElem?_eq_getElem hj)]
    rfl
  refine eqR_true (EqR.lsts (n := n) (e := fun j => eqV ((tx ws).getD j .non) ((tx ws).getD j .non)) ha hb rfl fun j hj => .flat (fl j hj) (fl j hj)) ?_
  rw [List.all_eq_true]
  intro j hj
  exact eqV_refl (fl j (List.mem_range.mp hj))
theorem eq_none {K : PySem.W.Frag} {H : Hp} {a b : Addr} {ws : List W} (ha : H a = some (.lst (tx ws))) (hb : H b = some (.lst [])) : EqR K H 1 (.ref a) (.ref b) (decide (ws = [])) := by
  by_cases h : ws = []
  · subst h
    rw [decide_eq_true rfl]
    exact eq_tx (ws := []) (SqL.of ha) (SqL.of hb)
  · rw [decide_eq_false h]
    exact EqR.lens (n := 0) (SqL.of ha) (SqL.of hb) fun z => h (List.length_eq_zero_iff.mp (by rw [tx_len] at z; exact z))
theorem glue_app : ∀ (a b : List W), a ≠ [] → b ≠ [] → glue (a ++ b) = glue a ++ 32 :: glue b
  | [], _, h, _ => absurd rfl h
  | [x], [], _, h => absurd rfl h
  | [x], y :: r, _, _ => rfl
  | x :: y :: r, b, _, h => by
    have ih := glue_app (y :: r) b (by simp) h
    show x ++ 32 :: glue ((y :: r) ++ b) = (x ++ 32 :: glue (y :: r)) ++ 32 :: glue b
    rw [ih]
    simp
theorem glue_lines : ∀ (gs : List (List W)), (∀ g ∈ gs, g ≠ []) → glue (gs.map glue) = glue gs.flatten
  | [], _ => rfl
  | [g], _ => by
    show glue g = glue (g ++ [])
    rw [List.append_nil]
  | g :: g2 :: gs, h => by
    have hg := h g List.mem_cons_self
    have ih := glue_lines (g2 :: gs) fun z hz => h z (List.mem_cons_of_mem _ hz)
    have n2 : (g2 :: gs).flatten ≠ [] := fun z => by
      rw [List.flatten_cons] at z
      exact h g2 (by simp) (List.append_eq_nil_iff.mp z).1
    rw [List.map_cons, List.flatten_cons, show glue g :: (g2 :: gs).map glue = [glue g] ++ (g2 :: gs).map glue from rfl, glue_app [glue g] _ (by simp) (by simp), glue_app g _ hg n2, ih]
    rfl
theorem glue_sum : ∀ ls : List W, (ls.map List.length).sum + ls.length ≤ (glue ls).length + 1
  | [] => Nat.zero_le _
  | [a] => by
    show a.length + 0 + 1 ≤ a.length + 1
    omega
  | a :: b :: r => by
    have ih := glue_sum (b :: r)
    show a.length + ((b :: r).map List.length).sum + ((b :: r).length + 1) ≤ (a ++ 32 :: glue (b :: r)).length + 1
    rw [List.length_append, List.length_cons (a := 32)]
    omega
theorem glue_12 : ∀ ls : List W, (∀ l ∈ ls, l.length ≤ 12) → (glue ls).length ≤ 13 * ls.length
  | [], _ => Nat.le_refl _
  | [a], h => by
    have := h a List.mem_cons_self
    show a.length ≤ 13 * 1
    omega
  | a :: b :: r, h => by
    have ih := glue_12 (b :: r) fun z hz => h z (List.mem_cons_of_mem _ hz)
    have := h a List.mem_cons_self
    show (a ++ 32 :: glue (b :: r)).length ≤ 13 * ((b :: r).length + 1)
    rw [List.length_append, List.length_cons (a := 32)]
    omega
def spLaw (K : PySem.W.Frag) : Sp := fun vs H Q _ => ∃ (a : Addr) (ns : List Int), vs = [.ref a] ∧ SqL K H a (ns.map V.int) ∧ ns.length ≤ 63 ∧ ∀ H', Q (.bl true) H'
section
variable {P : Program} {w : World} {K : PySem.W.Frag} {mg : Str → Option Value} {base : Heap}
theorem scLaw : FnScope ["script", "way", "cells", "k", "words", "some", "found", "ways", "put", "wide", "high", "came", "first", "last"] ["script"] (defScope sLaw) := ⟨rfl, rfl, rfl, by decide +kernel, rfl, by decide +kernel, by decide +kernel⟩
theorem ok_law {f C6 C5 fCe fLw fRo fPo fRe : Addr} {fd dCe dLw dRo dPo dRe : FuncData} (F : Fun K "law" "law" sLaw f fd) (tl : mg "len" = none) (tlist : mg "list" = none) (tsum : mg "sum" = none) (tr : mg "range" = none) (tmin : mg "min" = none) (tmax : mg "max" = none) (ts : mg "sorted" = none) (tint : mg "int" = none)
    (Ce : Callee P w K mg base CX0 1 "_law_cell_at" fCe dCe ["script", "k"] (spCellAt K)) (Lw : Callee P w K mg base CX0 2 "_law_word" fLw dLw ["cell", "way"] spLw) (Ro : Callee P w K mg base CX0 2 "_law_rooms" fRo dRo ["script"] (spRooms K))
    (Po : Callee P w K mg base (CXE P w) 5 "poured" fPo dPo ["words", "rooms"] (spPour C6 C5)) (Re : Callee P w K mg base CX0 1 "_law_reached" fRe dRe ["words", "first", "wide", "high"] spReach) : FnOk P w K mg base CX0 6 f fd ["script"] (spLaw K) := by
  refine F.ok scLaw (fun vs H Q E h => ?_) (fun cdv A outer s H vs Q E hr h => ?_)
  · obtain ⟨a, ns, rfl, _⟩ := h
    rfl
  · obtain ⟨a, ns, rfl, hS, h63, q⟩ := h
    have hu := hu_of hr
    refine ⟨_, (pss_cons (ps_set (i := 1) scLaw.nd rfl (Or.inr rfl) (pe_op op_mod (pe_call Ce.ok (hr.mono (show 1 ≤ 5 by decide)) rfl Ce.bound Ce.kp Ce.bd .nil pass0 (pa_cons (pv 0) (pa_cons pe_int pa_nil))) pe_int))
      (pss_cons (ps_comp (i := 2) (Nc := ["k", "script"]) (ix := [none, some 0]) scLaw.nd rfl (Or.inl rfl) rfl rfl (by exact (pi_range1 rfl tr (pa_cons (pe_callB (call_min2 rfl) (by rfl) tmin PyProof.Rows.boot_min (pa_cons pe_int (pa_cons (pe_callB (call_max2 rfl) (by rfl) tmax PyProof.Rows.boot_max (pa_cons pe_int (pa_cons (pe_op op_sub (pe_callB call_len_seq (by rfl) tl PySem.boot_len (pa_cons (pv 0) pa_nil)) pe_int) pa_nil))) pa_nil))) pa_nil))) (fun _ _ _ _ _ => (pg_name (i := 0) (by show (["k", "script"] : List Str).Nodup; decide +kernel) rfl (Or.inl rfl))) (fun _ _ _ _ _ => pts_nil) (fun _ _ _ _ _ => (pe_callB (call_sumGK (K := K) rfl rfl) (by rfl) tsum PyProof.Rows.boot_sum (pa_cons (pe_stepK (K := K) rfl (pv 1) (pe_op op_add pe_int (pv 0)) pe_int pe_int) pa_nil))))
      (pss_cons (ps_comp (i := 4) (Nc := ["cell", "way"]) (ix := [none, some 1]) scLaw.nd rfl (Or.inl rfl) rfl rfl (by refine' pi_list ?zz; case zz => exact (pv 2)) (fun _ _ _ _ _ => (pg_name (i := 0) (by show (["cell", "way"] : List Str).Nodup; decide +kernel) rfl (Or.inl rfl))) (fun _ _ _ _ _ => pts_nil) (fun _ _ _ _ _ => (pe_call Lw.ok (hr.mono (show 2 ≤ 5 by decide)) rfl Lw.bound Lw.kp Lw.bd .nil pass0 (pa_cons (pv 0) (pa_cons (pv 1) pa_nil)))))
      (pss_cons (ps_set (i := 5) scLaw.nd rfl (Or.inl rfl) (pe_call Ro.ok (hr.mono (show 2 ≤ 5 by decide)) rfl Ro.bound Ro.kp Ro.bd .nil pass0 (pa_cons (pv 0) pa_nil)))
      (pss_cons (ps_set (i := 6) scLaw.nd rfl (Or.inl rfl) (pe_call Po.ok (hr.mono (show 5 ≤ 5 by decide)) rfl Po.bound Po.kp Po.bd .nil passE0 (pa_cons (pe_callTy call_list_of rfl tlist PyProof.Rows.boot_list (pa_cons (pv 4) pa_nil)) (pa_cons (pe_callTy call_list_of rfl tlist PyProof.Rows.boot_list (pa_cons (pv 5) pa_nil)) pa_nil))))
      (pss_cons (ps_if (pt_cmpR op_ne (pe_callB call_len_seq (by rfl) tl PySem.boot_len (pa_cons (pe_ix ix_tup (pv 6) pe_int (fun _ _ => rfl)) pa_nil)) (pe_callB call_len_seq (by rfl) tl PySem.boot_len (pa_cons (pv 5) pa_nil)) (nomark _))
      (pss_one (ps_ret pe_bl))
      pss_nil)
      (pss_cons (ps_set (i := 7) scLaw.nd rfl (Or.inl rfl) (pe_lst (pa_cons pe_int pa_nil)))
      (pss_cons (ps_set (i := 8) scLaw.nd rfl (Or.inl rfl) pe_int)
      (pss_cons (ps_for PassesOwn.never rfl (pi_range1 rfl tr (pa_cons (pe_callB call_len_seq (by rfl) tl PySem.boot_len (pa_cons (pv 5) pa_nil)) pa_nil)) (pg_name (i := 3) scLaw.nd rfl (Or.inl rfl))
      (pss_cons (ps_asg (pe_ix ix_list (pv 5) (pv 3) (fun _ _ => rfl)) (pg_tup rfl (pgs_cons (pg_name (i := 9) scLaw.nd rfl (Or.inr rfl)) (pgs_cons (pg_name (i := 10) scLaw.nd rfl (Or.inl rfl)) pgs_nil))))
        (pss_cons (ps_set (i := 11) scLaw.nd rfl (Or.inl rfl) pe_dnewK)
        (pss_cons (ps_for PassesOwn.never rfl (pi_list (pv 7)) (pg_name (i := 12) scLaw.nd rfl (Or.inl rfl))
        (pss_one (ps_for PassesOwn.never rfl (pi_list (pe_call Re.ok (hr.mono (show 1 ≤ 5 by decide)) rfl Re.bound Re.kp Re.bd .nil pass0 (pa_cons (pv 4) (pa_cons (pv 12) (pa_cons (pv 9) (pa_cons (pv 10) pa_nil)))))) (pg_name (i := 13) scLaw.nd rfl (Or.inl rfl))
          (pss_one (ps_dput hu (pv 11) (pv 13) pe_bl rfl)))))
        (pss_cons (ps_set (i := 7) scLaw.nd rfl (Or.inl rfl) (pe_callB (call_sortD rfl) (by rfl) ts PyProof.Rows.boot_sorted (pa_cons (pv 11) pa_nil)))
        (pss_cons (ps_if (PW.pt (pw_or (pt_cmpR op_gt (pe_callB call_len_seq (by rfl) tl PySem.boot_len (pa_cons (pe_ix ix_list (pe_ix ix_tup (pv 6) pe_int (fun _ _ => rfl)) (pv 3) (fun _ _ => rfl)) pa_nil)) (pv 10) (nomark _)) (pw_or1 (pt_cmpR (op_neR hr.units) (pe_comp (Nc := ["one", "wide"]) (ix := [none, some 9]) rfl rfl (by refine' pi_list ?zz; case zz => exact (pe_ix ix_list (pe_ix ix_tup (pv 6) pe_int (fun _ _ => rfl)) (pv 3) (fun _ _ => rfl))) (fun _ _ _ _ _ => (pg_name (i := 0) (by show (["one", "wide"] : List Str).Nodup; decide +kernel) rfl (Or.inl rfl))) (fun _ _ _ _ _ => (pts_one (pt_cmpR op_gt (pe_callB call_len_str (by rfl) tl PySem.boot_len (pa_cons (pv 0) pa_nil)) (pv 1) (nomark _)))) (fun _ _ _ _ _ => (pv 0))) (pe_lst pa_nil) (nomark _)))))
        (pss_one (ps_ret pe_bl))
        pss_nil)
        (pss_cons (ps_set (i := 8) scLaw.nd rfl (Or.inl rfl) (pe_op op_add (pv 8) (pe_op op_mul (pe_callB call_len_seq (by rfl) tl PySem.boot_len (pa_cons (pe_bm PySem.F.plainAttrs_str PySem.F.slot_str_split PySem.F.type_str_split mt_splitG (pe_bm PySem.F.plainAttrs_str PySem.F.slot_str_join PySem.F.type_str_join mt_joinB pe_str (by exact (pa_cons (pe_ix ix_list (pe_ix ix_tup (pv 6) pe_int (fun _ _ => rfl)) (pv 3) (fun _ _ => rfl)) pa_nil))) (by exact (pa_cons pe_str pa_nil))) pa_nil)) (pe_callTy call_intB rfl tint PyProof.Rows.boot_int (pa_cons (pe_cmpR (op_neR hr.units) (pe_ix ix_list (pe_ix ix_tup (pv 6) pe_int (fun _ _ => rfl)) (pv 3) (fun _ _ => rfl)) (pe_lst pa_nil) (nomark _)) pa_nil)))))
        (pss_one (ps_if (pt_cmpR op_ne (pv 8) (pe_ix ix_list (pv 7) (pe_un un_neg pe_int) (fun _ _ => rfl)) (nomark _))
        (pss_one (ps_ret pe_bl))
        pss_nil)))))))))
      (pss_one (ps_ret (pe_cmpR (op_eqR hr.units) (pe_ix ix_tup (pv 6) pe_int (fun _ _ => rfl)) (pe_slice sl_list (pv 4) (po_some (pv 8)) po_none) (nomark _))))))))))))), ?_⟩
    refine ⟨_, rfl, a, ns, 0, rfl, hS, by decide, fun c0 => ?_⟩
    refine ⟨_, _, rfl, rfl, (by show (0 : Int) < 2; decide), ?_⟩
    have fw := few (((ns.map V.int).length : Nat) : Int)
    refine ⟨_, rfl, _, _, rfl, .inl hS, _, _, rfl, rfl, _, _, rfl, _, _, rfl, _, rfl, by omega, by omega, ?_⟩
    obtain ⟨N, hN⟩ : ∃ N : Nat, (if (if (((ns.map V.int).length : Nat) : Int) - 2 > 0 then (((ns.map V.int).length : Nat) : Int) - 2 else 0) < 24 then (if (((ns.map V.int).length : Nat) : Int) - 2 > 0 then (((ns.map V.int).length : Nat) : Int) - 2 else 0) else 24) = (N : Int) := ⟨_, (Int.toNat_of_nonneg fw.2).symm⟩
    have n40 : N ≤ 24 := by have := fw.1; omega
    rw [hN]
    refine cmp_range (lo := 0) (n := N) (fun i ys σ H' => ∃ ms : List Int, ys = ms.map V.int ∧ ms.length = i ∧ Same H H' ∧ ∃ o, σ = [o, some (.ref a)])
      ⟨[], rfl, rfl, Same.refl _, none, rfl⟩ (fun i ys σ H' hi ⟨ms, e, l1, _⟩ => by rw [e, List.length_map, l1]; exact Nat.le_trans (show i ≤ 1000 by omega) (by decide)) ?_ ?_
    case refine_2 =>
      rintro i ys σ H' hi ⟨ms, rfl, l1, S, o, rfl⟩
      dsimp only [gName, tYes]
      refine iteT ?_
      refine ⟨_, rfl, _, rfl, _, _, rfl, rfl, _, _, _, a, _, rfl, rfl, rfl, by decide, rfl, S.seq hS, fun zs p hz _ np => ?_⟩
      obtain ⟨ks, rfl⟩ := ints_of hz
      exact ⟨p, ks, rfl, SqL.of upd_same, ms ++ [ks.sum], by rw [List.map_append]; rfl, by rw [List.length_append, l1]; rfl, S.trans (same_new np), _, rfl⟩
    rintro ys σ H1 ⟨cells, rfl, l1, S1, _⟩ pc nc
    have Sc := S1.trans (same_new (o := .lst (cells.map V.int)) nc)
    have hpc : (upd H1 pc (.lst (cells.map V.int))) pc = some (.lst (cells.map V.int)) := upd_same
    generalize upd H1 pc (.lst (cells.map V.int)) = H2 at Sc hpc
    refine ⟨_, rfl, pc, rfl, ⟨_, SqL.of hpc⟩, cmp_list (K := K) (a := pc) (xs := cells.map V.int) (fun i ys σ H' => ∃ ws : List W, ys = tx ws ∧ ws.length = i ∧ (∀ u ∈ ws, okW u) ∧ Same H2 H' ∧ ∃ o, σ = [o, some (.int (c0 % 2))])
      ⟨[], rfl, rfl, fun u hu => (List.not_mem_nil hu).elim, Same.refl _, none, rfl⟩ (fun i ys σ H' hi ⟨ws, e, l1, _, S, _⟩ => ⟨by rw [e, tx_len, l1]; rw [List.length_map] at hi; exact Nat.le_trans (show i ≤ 1000 by omega) (by decide), SqL.of (S _ _ hpc)⟩) ?_ ?_⟩
    case refine_2 =>
      rintro i x ys σ H' hx ⟨ws, rfl, l1, hw, S, o, rfl⟩
      obtain ⟨n, rfl⟩ : ∃ n, x = V.int n := by
        rw [List.getElem?_map] at hx
        cases e : cells[i]? with
        | none => rw [e] at hx; cases hx
        | some n => rw [e] at hx; cases hx; exact ⟨n, rfl⟩
      dsimp only [gName, tYes]
      refine iteT ?_
      refine ⟨_, rfl, _, rfl, n, (c0 % 2), rfl, fun u H2 S2 hu => ?_⟩
      refine ⟨ws ++ [u], tx_snoc ws u, by rw [List.length_append, l1]; rfl, fun z hz => ?_, S.trans S2, _, rfl⟩
      rcases List.mem_append.mp hz with y | y
      · exact hw z y
      · rw [List.mem_singleton.mp y]
        exact hu
    rintro ys σ H3 ⟨ws, rfl, l2, hw, S3, _⟩ l nl
    rw [List.length_map] at l2
    have S4 := Sc.trans (S3.trans (same_new (o := .lst (tx ws)) nl))
    have hl : (upd H3 l (.lst (tx ws))) l = some (.lst (tx ws)) := upd_same
    generalize upd H3 l (.lst (tx ws)) = H4 at S4 hl
    clear S3 nl Sc hpc nc H2 S1
    have w12 : ∀ u ∈ ws, u.length ≤ 12 := fun u hu => (hw u hu).2.1
    have hn : ws.length ≤ 24 := by omega
    refine ⟨_, rfl, a, ns, rfl, S4.seq hS, fun lr xr rs H5 S5 hlr hA ok r1 r8 => ?_⟩
    have hl5 := S5 _ _ hl
    have S05 := S4.trans S5
    clear S4 S5 hl
    have lx := hA.len
    rw [List.length_map] at lx
    refine ⟨_, rfl, l, _, rfl, .inl (SqL.of hl5), fun h0 nh0 => ?_⟩
    have S6 := same_new (o := .lst (tx ws)) nh0
    have e0 : (upd H5 h0 (.lst (tx ws))) h0 = some (.lst (tx ws)) := upd_same
    generalize upd H5 h0 (.lst (tx ws)) = H6 at S6 e0
    refine ⟨_, rfl, lr, _, rfl, .inl (SqL.of (S6 _ _ hlr)), fun h1 nh1 => ?_⟩
    have S7 := S6.trans (same_new (o := .lst xr) nh1)
    have e07 := same_new (o := .lst xr) nh1 _ _ e0
    have e1 : (upd H6 h1 (.lst xr)) h1 = some (.lst xr) := upd_same
    generalize upd H6 h1 (.lst xr) = H7 at S7 e07 e1
    refine ⟨.ref h0, .ref h1, rfl, .inl ⟨h0, ws, rfl, e07, hw, by omega, .inl ⟨rs, ⟨h1, xr, rfl, e1, hA.same S7, ok, by omega⟩, fun t lf ll ps H8 S8 _ _ ht hlf hll hRs => ?_⟩⟩⟩
    have S58 := S7.trans S8
    have hl := S58 _ _ hl5
    have hlr := S58 _ _ hlr
    have hA := hA.same S58
    have S0 := S05.trans S58
    clear S6 S7 S8 S58 e0 e07 e1 hl5 S05 nh0 nh1
    have lp := hRs.len
    rw [pour_len] at lp
    have rl : (refs ps).length = rs.length := by rw [← lp]; exact List.length_map _
    refine ⟨_, rfl, _, _, _, _, rfl, rfl, SqT.of ht, rfl, _, _, rfl, .inl (SqL.of hlf), _, rfl, _, _, rfl, .inl (SqL.of hlr), rfl, _, rfl, ?_⟩
    rw [rl, lx, decide_eq_true rfl]
    refine iteF ?_
    refine run_next ?_
    dsimp only
    refine ⟨by show 1 ≤ sizeLine; decide, fun wl0 nwl0 => ?_⟩
    have S9 := same_new (o := .lst [.int 0]) nwl0
    have hwl0 : (upd H8 wl0 (.lst [.int 0])) wl0 = some (.lst (nums ([] ++ [0]))) := upd_same
    generalize upd H8 wl0 (.lst [.int 0]) = H9 at S9 hwl0
    refine ⟨_, rfl, _, _, rfl, .inl (SqL.of (S9 _ _ hlr)), _, rfl, by rw [lx]; omega, by rw [lx]; omega, ?_⟩
    rw [lx, Int.toNat_natCast]
    refine for_range (lo := 0) (n := rs.length) (fun i σ H4 => ∃ (o3 o9 o10 o11 o12 o13 : Option V) (wl : Addr) (ms : List Nat), σ = [some (.ref a), some (.int (c0 % 2)), some (.ref pc), o3, some (.ref l), some (.ref lr), some (.ref t), some (.ref wl), some (.int ((pour ws (rs.take i)).2 : Nat)), o9, o10, o11, o12, o13] ∧ Same H8 H4 ∧
        H4 wl = some (.lst (nums (ms ++ [(pour ws (rs.take i)).2]))) ∧ (∀ m ∈ ms, m ≤ (pour ws (rs.take i)).2) ∧ ms.length ≤ 25) ⟨none, none, none, none, none, none, wl0, [], rfl, S9, hwl0, fun m hm => (List.not_mem_nil hm).elim, Nat.zero_le _⟩ ?_ ?_
    · rintro i σ H4 hi ⟨o3, o9, o10, o11, o12, o13, wl, ms, rfl, S4, hwl, hms, lms⟩
      refine run_gname ?_
      rw [show (0 : Int) + (i : Int) = (i : Int) from Int.zero_add _]
      obtain ⟨x, hx⟩ : ∃ x, xr[i]? = some x := ⟨_, List.getElem?_eq_getElem (by omega)⟩
      obtain ⟨r, p, er, rfl, hp⟩ := hA.room hx
      have okr := ok r (List.mem_of_getElem? er)
      obtain ⟨hil, ev⟩ := List.getElem?_eq_some_iff.mp er
      have es : pour ws (rs.take (i + 1)) = step ws (pour ws (rs.take i)) r := by rw [← List.take_append_getElem hil, ev, pour_snoc]
      have pg := pour_get (ws := ws) er
      have ul := pour_le ws (rs.take i)
      have eU : (pour ws (rs.take (i + 1))).2 = (pour ws (rs.take i)).2 + used r.1 r.2.toNat (ws.drop (pour ws (rs.take i)).2) := by rw [es]; rfl
      rw [eU]
      generalize (pour ws (rs.take i)).2 = U at hwl hms pg ul
      obtain ⟨pk, epk, hpk⟩ := hRs.get pg
      have ule : U + used r.1 r.2.toNat (ws.drop U) ≤ ws.length := by
        have := used_le (wide := r.1) (h := r.2.toNat) (ws := ws.drop U)
        rw [List.length_drop] at this
        omega
      refine ⟨_, rfl, _, rfl, _, _, _, _, rfl, rfl, SqL.of (S4 _ _ hlr), atI_nat hx, p, _, rfl, SqT.of (S4 _ _ hp), rfl, _, _, rfl, _, _, rfl, rfl, ?_⟩
      dsimp only
      refine fun d nd => ?_
      have S10 := same_new (o := .dK []) nd
      have hd0 : (upd H4 d (.dK [])) d = some (.dK []) := upd_same
      have hwl1 := S10 _ _ hwl
      have S810 := S4.trans S10
      generalize upd H4 d (.dK []) = H10 at S10 hd0 hwl1 S810
      have wd : wl ≠ d := ne_of_none hwl nd
      have fd8 : H8 d = none := S4.free nd
      generalize hV : U + used r.1 r.2.toNat (ws.drop U) = V' at ule
      refine run_seq ⟨_, rfl, wl, rfl, ⟨_, SqL.of hwl1⟩, for_list (K := K) (a := wl) (xs := nums (ms ++ [U])) (fun j σ H5 => ∃ (o12 o13 : Option V) (kvs : List (Key × V)) (ks : List Nat), σ = [some (.ref a), some (.int (c0 % 2)), some (.ref pc), some (.int (i : Int)), some (.ref l), some (.ref lr), some (.ref t), some (.ref wl), some (.int (U : Int)), some (.int r.1), some (.int r.2), some (.ref d), o12, o13] ∧ But d H4 H5 ∧ H5 d = some (.dK kvs) ∧ Ky kvs ks ∧ ks.Nodup ∧ (∀ m ∈ ks, m ≤ V') ∧ (U ∈ (ms ++ [U]).take j → V' ∈ ks))
        ⟨o12, o13, [], [], rfl, But.of S10, hd0, rfl, by simp, fun m hm => (List.not_mem_nil hm).elim, fun z => by rw [List.take_zero] at z; exact (List.not_mem_nil z).elim⟩ (fun j σ H5 _ ⟨_, _, _, _, _, B, _⟩ => SqL.of (B _ _ wd hwl)) ?_ ?_⟩
      · rintro j x σ H5 hj ⟨o12, o13, kvs, ks, rfl, B5, hd5, hK, knd, kle, hin⟩
        unfold nums at hj
        rw [List.getElem?_map] at hj
        obtain ⟨F1, eF, rfl⟩ : ∃ F1 : Nat, (ms ++ [U])[j]? = some F1 ∧ x = V.int (F1 : Int) := by
          cases e : (ms ++ [U])[j]? with
          | none => rw [e] at hj; cases hj
          | some z => rw [e] at hj; cases hj; exact ⟨z, rfl, rfl⟩
        have FU : F1 ≤ U := by
          rcases List.mem_append.mp (List.mem_of_getElem? eF) with m | m
          · exact hms F1 m
          · rw [List.mem_singleton.mp m]
            exact Nat.le_refl _
        obtain ⟨hjl, ejl⟩ := List.getElem?_eq_some_iff.mp eF
        refine run_gname ?_
        have S5 : Same H8 H5 := But.same S4 B5 fd8
        refine ⟨_, rfl, _, rfl, _, rfl, _, rfl, l, ws, F1, r.1, r.2, rfl, S5 _ _ hl, hw, hn, by omega, by have := okr.2; omega, fun lq ms2 H6 S6 hlq ln2 ok2 mem2 => ?_⟩
        have nq : lq ≠ d := fun z => by
          have := S6 _ _ hd5
          rw [← z, hlq] at this
          cases this
        refine ⟨lq, rfl, ⟨_, SqL.of hlq⟩, for_list (K := K) (a := lq) (xs := nums ms2) (fun jj σ H7 => ∃ (o13 : Option V) (kvs : List (Key × V)) (ks2 : List Nat), σ = [some (.ref a), some (.int (c0 % 2)), some (.ref pc), some (.int (i : Int)), some (.ref l), some (.ref lr), some (.ref t), some (.ref wl), some (.int (U : Int)), some (.int r.1), some (.int r.2), some (.ref d), some (.int (F1 : Int)), o13] ∧ But d H6 H7 ∧ H7 d = some (.dK kvs) ∧ Ky kvs ks2 ∧ ks2.Nodup ∧ (∀ m ∈ ks2, m ≤ V') ∧ (∀ m ∈ ks, m ∈ ks2) ∧ ∀ m ∈ ms2.take jj, m ∈ ks2)
          ⟨o13, kvs, ks, rfl, But.refl, S6 _ _ hd5, hK, knd, kle, fun m hm => hm, fun m hm => by rw [List.take_zero] at hm; exact (List.not_mem_nil hm).elim⟩ (fun jj σ H7 _ ⟨_, _, _, _, B, _⟩ => SqL.of (B _ _ nq hlq)) ?_ ?_⟩
        · rintro jj x σ H7 hjj ⟨o13, kvs2, ks2, rfl, B7, hd7, hK2, knd2, kle2, old2, in2⟩
          unfold nums at hjj
          rw [List.getElem?_map] at hjj
          obtain ⟨m, em, rfl⟩ : ∃ m : Nat, ms2[jj]? = some m ∧ x = V.int (m : Int) := by
            cases e : ms2[jj]? with
            | none => rw [e] at hjj; cases hjj
            | some z => rw [e] at hjj; cases hjj; exact ⟨z, rfl, rfl⟩
          obtain ⟨hml, eml⟩ := List.getElem?_eq_some_iff.mp em
          obtain ⟨g1, g2, g3⟩ := ok2 m (List.mem_of_getElem? em)
          have mV : m ≤ V' := by rw [← hV]; exact g3.best FU (by omega) g1 g2
          refine run_gname ?_
          obtain ⟨ks3, k1, k2, k3⟩ := hK2.put (v := .bl true) (m := m) knd2
          refine ⟨_, rfl, _, rfl, d, _, rfl, DPut.k (k := kk m) hd7 ?_, _, _, ks3, rfl, But.upd B7, upd_same, k1, k2, ?_, ?_, ?_⟩
          · rw [hK2.len]
            have := nd_len 25 ks2 knd2 fun z hz => by have := kle2 z hz; omega
            exact Nat.lt_of_le_of_lt this (by decide)
          · intro z hz
            rcases (k3 z).mp hz with y | y
            · exact kle2 z y
            · rw [y]; exact mV
          · intro z hz
            exact (k3 z).mpr (.inl (old2 z hz))
          · intro z hz
            rw [← List.take_append_getElem hml, eml] at hz
            rcases List.mem_append.mp hz with y | y
            · exact (k3 z).mpr (.inl (in2 z y))
            · exact (k3 z).mpr (.inr (List.mem_singleton.mp y))
        · rintro σ H7 ⟨o13, kvs2, ks2, rfl, B7, hd7, hK2, knd2, kle2, old2, in2⟩
          have ln : (nums ms2).length = ms2.length := List.length_map _
          rw [ln, List.take_length] at in2
          refine ⟨_, _, kvs2, ks2, rfl, (B5.trans (But.of S6)).trans B7, hd7, hK2, knd2, kle2, fun z => ?_⟩
          rw [← List.take_append_getElem hjl, ejl] at z
          rcases List.mem_append.mp z with y | y
          · exact old2 _ (hin y)
          · have eFU : U = F1 := List.mem_singleton.mp y
            rw [← eFU] at mem2
            rw [← hV]
            exact in2 _ mem2
      · rintro σ H5 ⟨o12, o13, kvs, ks, rfl, B5, hd5, hK, knd, kle, hin⟩
        have ln : (nums (ms ++ [U])).length = (ms ++ [U]).length := List.length_map _
        rw [ln, List.take_length] at hin
        have hV2 := hin (by simp)
        have S5 : Same H8 H5 := But.same S4 B5 fd8
        have l25 := nd_len 25 ks knd fun z hz => by have := kle z hz; omega
        refine ⟨_, rfl, d, kvs, ks.map fun k : Nat => (k : Int), rfl, hd5, ?_, by rw [List.length_map]; omega, fun wl2 ms2 nwl2 pm st => ?_⟩
        · rw [hK, List.map_map]
          rfl
        have mem2 : ∀ z : Int, z ∈ ms2 ↔ ∃ k : Nat, k ∈ ks ∧ (k : Int) = z := fun z => by rw [pm.mem_iff]; exact List.mem_map
        obtain ⟨r2, er2⟩ := last_max (U := (V' : Int)) st ((mem2 _).mpr ⟨V', hV2, rfl⟩) (fun z hz => by
          obtain ⟨k, hk, rfl⟩ := (mem2 z).mp hz
          exact Int.ofNat_le.mpr (kle k hk))
        have er3 : ms2.map V.int = nums (r2.map Int.toNat ++ [V']) := by
          rw [er2, List.map_append]
          unfold nums
          rw [List.map_append, List.map_map]
          congr 1
          refine List.map_congr_left fun z hz => ?_
          obtain ⟨k, _, ek⟩ := (mem2 z).mp (by rw [er2]; exact List.mem_append_left _ hz)
          rw [← ek]
          rfl
        have mle : ∀ m ∈ r2.map Int.toNat, m ≤ V' := fun m hm => by
          obtain ⟨z, hz, rfl⟩ := List.mem_map.mp hm
          obtain ⟨k, hk, ek⟩ := (mem2 z).mp (by rw [er2]; exact List.mem_append_left _ hz)
          rw [← ek]
          exact kle k hk
        have rlen : (r2.map Int.toNat).length ≤ 25 := by
          have e1 := pm.length_eq
          rw [er2, List.length_append, List.length_map] at e1
          rw [List.length_map]
          omega
        rw [er3]
        generalize r2.map Int.toNat = ms3 at mle rlen
        have S6 := same_new (o := .lst (nums (ms3 ++ [V']))) nwl2
        have hwl2 : (upd H5 wl2 (.lst (nums (ms3 ++ [V'])))) wl2 = some (.lst (nums (ms3 ++ [V']))) := upd_same
        have S86 := S5.trans S6
        generalize upd H5 wl2 (.lst (nums (ms3 ++ [V']))) = H6 at S6 hwl2 S86
        dsimp only
        have hlf6 := S86 _ _ hlf
        have ht6 := S86 _ _ ht
        have hpk6 := S86 _ _ hpk
        have eat : atI (refs ps) (i : Int) = some (.ref pk) := atI_nat (by unfold refs; rw [List.getElem?_map, epk]; rfl)
        have rln := lns_len (wide := r.1) (h := r.2.toNat) (ws := ws.drop U)
        have rne := lns_ne (wide := r.1) (h := r.2.toNat) (ws := ws.drop U)
        have rmem := lns_mem (wide := r.1) (h := r.2.toNat) (ws := ws.drop U)
        have rwd : ∀ z ∈ (lns r.1 r.2.toNat (ws.drop U)).map glue, (z.length : Int) ≤ r.1 := fun z hz => by
          rw [← lns_taken] at hz
          exact taken_le _ (nar_le _) z (List.mem_of_mem_take hz)
        have rfl_ : (lns r.1 r.2.toNat (ws.drop U)).flatten.length = used r.1 r.2.toNat (ws.drop U) := rfl
        have ufl := used_le (wide := r.1) (h := r.2.toNat) (ws := ws.drop U)
        rw [List.length_drop] at ufl
        have egl := glue_lines _ rne
        generalize lns r.1 r.2.toNat (ws.drop U) = gs at hpk6 rln rne rmem rwd rfl_ egl
        have gok : ∀ u ∈ gs.flatten, okW u := fun u hu => by
          obtain ⟨g, hg, hu⟩ := List.mem_flatten.mp hu
          exact hw u (List.mem_of_mem_drop (rmem g hg u hu))
        have gl12 := glue_12 gs.flatten fun u hu => (gok u hu).2.1
        have glen : gs.length ≤ gs.flatten.length := by
          clear rln rmem rwd rfl_ egl gok gl12 hpk6
          induction gs with
          | nil => exact Nat.le_refl _
          | cons g gs ih =>
            have := ih fun z hz => rne z (List.mem_cons_of_mem _ hz)
            have := List.length_pos_iff.mpr (rne g List.mem_cons_self)
            rw [List.flatten_cons, List.length_append, List.length_cons]
            omega
        have rls : ∀ z ∈ gs.map glue, z.length ≤ 1000 := fun z hz => by
          have h1 := glue_sum (gs.map glue)
          have h2 : z.length ≤ ((gs.map glue).map List.length).sum := by
            clear h1 rwd egl hpk6
            generalize gs.map glue = zs at hz
            induction zs with
            | nil => exact (List.not_mem_nil hz).elim
            | cons y zs ih =>
              rw [List.map_cons, List.sum_cons]
              rcases List.mem_cons.mp hz with e | e
              · rw [e]; omega
              · have := ih e
                omega
          rw [egl] at h1
          omega
        refine ⟨_, rfl, _, _, _, _, rfl, rfl, SqT.of ht6, rfl, _, rfl, _, _, _, _, rfl, rfl, SqL.of hlf6, eat, _, _, rfl, .inl (SqL.of hpk6), _, rfl, _, _, rfl, rfl, _, rfl, ?_⟩
        rw [decide_eq_false (by rw [tx_len, List.length_map]; have := okr.2; omega)]
        refine iteF ?_
        refine ⟨_, rfl, _, _, _, _, rfl, rfl, SqT.of ht6, rfl, _, rfl, _, _, _, _, rfl, rfl, SqL.of hlf6, eat, pk, rfl, ⟨_, SqL.of hpk6⟩, cmp_list (K := K) (a := pk) (xs := tx (gs.map glue)) (fun i ys σ H' => ys = [] ∧ H' = H6 ∧ ∃ o, σ = [o, some (.int r.1)]) ⟨rfl, rfl, none, rfl⟩
          (fun i ys σ H' hi ⟨e, e2, _⟩ => ⟨by rw [e]; exact Nat.zero_le _, by rw [e2]; exact SqL.of hpk6⟩) ?_ ?_⟩
        case refine_2 =>
          rintro i x ys σ H' hx ⟨rfl, rfl, o, rfl⟩
          obtain ⟨v, hv, rfl⟩ := tx_get' hx
          have hv := List.mem_of_getElem? hv
          dsimp only [gName]
          have b1 := rls v hv
          have b2 := rwd v hv
          refine tst_of (p := r.1 < (v.length : Int)) (evl_I0 (evl_lenS (evl_var rfl) (by omega)) (evl_var rfl)) _ ?_
          rw [decide_eq_false (by omega)]
          exact iteF ⟨rfl, rfl, _, rfl⟩
        rintro ys σ H' ⟨rfl, rfl, _⟩ p5 n5
        have S7 := same_new (o := .lst []) n5
        have hp5 : (upd H' p5 (.lst [])) p5 = some (.lst (tx [])) := upd_same
        generalize upd H' p5 (.lst []) = H7 at S7 hp5
        refine ⟨by show 0 ≤ sizeLine; decide, fun p6 n6 => ?_⟩
        have S8' := S7.trans (same_new (o := .lst []) n6)
        refine ⟨p5, p6, 1, _, rfl, rfl, eq_none (same_new n6 _ _ hp5) upd_same, by decide, _, rfl, iteF ?_⟩
        generalize upd H7 p6 (.lst []) = H9' at S8'
        refine run_next ?_
        dsimp only
        have hlf9 := S8' _ _ hlf6
        have ht9 := S8' _ _ ht6
        have hpk9 := S8' _ _ hpk6
        have hwl9 := S8' _ _ hwl2
        have S89 := S86.trans S8'
        obtain ⟨ws', wn, wf, wg, wl'⟩ : ∃ ws' : List W, ws' ≠ [] ∧ (∀ w ∈ ws', 32 ∉ w) ∧ glue (gs.map glue) = glue ws' ∧ ws'.length ≤ 25 ∧ ((ws'.length : Int) * (if (!decide (gs.map glue = [])) = true then 1 else 0) = (used r.1 r.2.toNat (ws.drop U) : Nat)) := by
          by_cases g0 : gs = []
          · subst g0
            refine ⟨[[]], by simp, fun w hw => by rw [List.mem_singleton.mp hw]; simp, rfl, by decide, ?_⟩
            rw [← rfl_]
            rfl
          · refine ⟨gs.flatten, fun z => g0 ?_, fun w hw => (free32 (gok w hw)).2, egl, by omega, ?_⟩
            · rw [z] at glen
              exact List.length_eq_zero_iff.mp (Nat.le_zero.mp glen)
            · rw [decide_eq_false (fun z => g0 (List.map_eq_nil_iff.mp z)), ← rfl_]
              show _ * (1 : Int) = _
              omega
        refine ⟨_, rfl, rfl, _, rfl, _, _, _, _, rfl, rfl, SqT.of ht9, rfl, _, rfl, _, _, _, _, rfl, rfl, SqL.of hlf9, eat, pk, _, rfl, rfl, SqL.of hpk9, ?_, ?_⟩
        · have := glue_sum (gs.map glue)
          rw [egl] at this
          omega
        rw [wg]
        refine ⟨rfl, ws', rfl, rfl, wn, wf, by rw [← wg, egl]; omega, by omega, fun lw nlw => ?_⟩
        have S10 := same_new (o := .lst (ws'.map fun w => V.str (txt w))) nlw
        have hlw : (upd H9' lw (.lst (ws'.map fun w => V.str (txt w)))) lw = some (.lst (ws'.map fun w => V.str (txt w))) := upd_same
        generalize upd H9' lw (.lst (ws'.map fun w => V.str (txt w))) = H10' at S10 hlw
        refine ⟨lw, _, rfl, .inl (SqL.of hlw), _, rfl, _, _, _, _, rfl, rfl, SqT.of (S10 _ _ ht9), rfl, _, rfl, _, _, _, _, rfl, rfl, SqL.of (S10 _ _ hlf9), eat, by show 0 ≤ sizeLine; decide, fun p7 n7 => ?_⟩
        have S11 := S10.trans (same_new (o := .lst []) n7)
        have hp7 : (upd H10' p7 (.lst [])) p7 = some (.lst []) := upd_same
        generalize upd H10' p7 (.lst []) = H11' at S11 hp7
        refine ⟨pk, p7, 1, _, rfl, rfl, eq_none (S11 _ _ hpk9) hp7, by decide, _, rfl, _, _, rfl, rfl, .inl ⟨by omega, by rw [List.length_map]; omega⟩, _, _, rfl, rfl, ?_⟩
        rw [List.length_map]
        dsimp only [gName]
        rw [show (if true = true then !decide (gs.map glue = []) else decide (gs.map glue = [])) = !decide (gs.map glue = []) from rfl, wl'.2, ← Int.natCast_add, hV]
        refine ⟨_, rfl, _, rfl, 1, rfl, _, _, _, _, rfl, rfl, SqL.of (S11 _ _ hwl9), (by unfold nums; rw [List.map_append]; exact atI_last _ _), rfl, _, rfl, ?_⟩
        rw [decide_eq_true rfl]
        refine iteF ?_
        exact ⟨_, _, _, _, _, _, wl2, ms3, rfl, S89.trans S11, S11 _ _ hwl9, mle, rlen⟩
    · rintro σ H4 ⟨o3, o9, o10, o11, o12, o13, wl, ms, rfl, S4, hwl, hms, lms⟩
      rw [List.take_length]
      have ul := pour_le ws rs
      refine ⟨_, rfl, _, _, _, _, rfl, rfl, SqT.of (S4 _ _ ht), rfl, _, rfl, _, rfl, _, rfl, l, _, rfl, SqL.of (S4 _ _ hl), fun pz npz => ?_⟩
      rw [cutV_tx_drop ws _ ul]
      have S5 := same_new (o := .lst (tx (ws.drop (pour ws rs).2))) npz
      exact ⟨ll, pz, 1, true, rfl, rfl, eq_tx (SqL.of (S5 _ _ (S4 _ _ hll))) (SqL.of upd_same), by decide, q _⟩
end
end KW
set_option Elab.async false
set_option linter.all false
set_option maxRecDepth 100000
namespace L2
open PySem PySem.Spec PyProof.Rows
end L2
set_option Elab.async false
set_option linter.all false
set_option maxRecDepth 100000
set_option maxHeartbeats 4000000
namespace KW
open PySem L2
theorem all_mk {l : PySem.W.OpenLaw} {w : World} {K : PySem.W.Frag} {h : Heap} {mg : Str → Option Value} {fa  f0 f1 f2 f3 f4 f5 f6 f7 f8 f9 f10 f11 f12 f13 f14 f15 f16 f17 C0 C1 C2 : Addr} (X : K.In h) (G : h.Ns mainGlobals mg) (hfa : mg "law" = some (.ref fa)) 
    {od0 od1 od2 od3 od4 od5 od6 od7 od8 od9 od10 od11 od12 od13 od14 od15 od16 od17 an0 an1 an2 an3 an4 an5 an6 an7 an8 an9 an10 an11 an12 an13 an14 an15 an16 an17 : Option Addr} {sl0 sl1 sl2 sl3 sl4 sl5 sl6 sl7 sl8 sl9 sl10 sl11 sl12 sl13 sl14 sl15 sl16 sl17 : Array (Option Value)} {oc0 kV0 dc0 pm0 cd0 ct0 oc1 kV1 dc1 pm1 cd1 ct1 oc2 kV2 dc2 pm2 cd2 ct2 oc3 kV3 dc3 pm3 cd3 ct3 oc4 kV4 dc4 pm4 cd4 ct4 oc5 kV5 dc5 pm5 cd5 ct5 oc6 kV6 dc6 pm6 cd6 ct6 oc7 kV7 dc7 pm7 cd7 ct7 oc8 kV8 dc8 pm8 cd8 ct8 oc9 kV9 dc9 pm9 cd9 ct9 oc10 kV10 dc10 pm10 cd10 ct10 oc11 kV11 dc11 pm11 cd11 ct11 oc12 kV12 dc12 pm12 cd12 ct12 oc13 kV13 dc13 pm13 cd13 ct13 oc14 kV14 dc14 pm14 cd14 ct14 oc15 kV15 dc15 pm15 cd15 ct15 oc16 kV16 dc16 pm16 cd16 ct16 oc17 kV17 dc17 pm17 cd17 ct17 : Value} {t_LEFT_OUT t_MOST_SIGNS : Tok}
    (a0 : PySem.W.nsIn K mainGlobals "is_sign" = some (some (.ref f0)))
    (l0 : K.lookup f0 = some ⟨oc0, od0, .func (PySem.W.fnOf "is_sign" "is_sign" (defArgs sSign) (defBody sSign) (defScope sSign) .none kV0 dc0 pm0 an0 cd0 ct0), sl0⟩)
    (c0 : PySem.W.codeIn K cd0 "is_sign" = true)
    (k0 : PySem.W.keepIn K (.ref f0) = true)
    (a1 : PySem.W.nsIn K mainGlobals "is_word" = some (some (.ref f1)))
    (l1 : K.lookup f1 = some ⟨oc1, od1, .func (PySem.W.fnOf "is_word" "is_word" (defArgs sWord) (defBody sWord) (defScope sWord) .none kV1 dc1 pm1 an1 cd1 ct1), sl1⟩)
    (c1 : PySem.W.codeIn K cd1 "is_word" = true)
    (k1 : PySem.W.keepIn K (.ref f1) = true)
    (a2 : PySem.W.nsIn K mainGlobals "are_words" = some (some (.ref f2)))
    (l2 : K.lookup f2 = some ⟨oc2, od2, .func (PySem.W.fnOf "are_words" "are_words" (defArgs sAre) (defBody sAre) (defScope sAre) .none kV2 dc2 pm2 an2 cd2 ct2), sl2⟩)
    (c2 : PySem.W.codeIn K cd2 "are_words" = true)
    (k2 : PySem.W.keepIn K (.ref f2) = true)
    (a3 : PySem.W.nsIn K mainGlobals "refuse_no_words" = some (some (.ref f3)))
    (l3 : K.lookup f3 = some ⟨oc3, od3, .func (PySem.W.fnOf "refuse_no_words" "refuse_no_words" (defArgs sRefuse) (defBody sRefuse) (defScope sRefuse) .none kV3 dc3 pm3 an3 cd3 ct3), sl3⟩)
    (c3 : PySem.W.codeIn K cd3 "refuse_no_words" = true)
    (k3 : PySem.W.keepIn K (.ref f3) = true)
    (a4 : PySem.W.nsIn K mainGlobals "taken" = some (some (.ref f4)))
    (l4 : K.lookup f4 = some ⟨oc4, od4, .func (PySem.W.fnOf "taken" "taken" (defArgs sTaken) (defBody sTaken) (defScope sTaken) .none kV4 dc4 pm4 an4 cd4 ct4), sl4⟩)
    (c4 : PySem.W.codeIn K cd4 "taken" = true)
    (k4 : PySem.W.keepIn K (.ref f4) = true)
    (a5 : PySem.W.nsIn K mainGlobals "is_whole" = some (some (.ref f5)))
    (l5 : K.lookup f5 = some ⟨oc5, od5, .func (PySem.W.fnOf "is_whole" "is_whole" (defArgs sWhole) (defBody sWhole) (defScope sWhole) .none kV5 dc5 pm5 an5 cd5 ct5), sl5⟩)
    (c5 : PySem.W.codeIn K cd5 "is_whole" = true)
    (k5 : PySem.W.keepIn K (.ref f5) = true)
    (a6 : PySem.W.nsIn K mainGlobals "is_length" = some (some (.ref f6)))
    (l6 : K.lookup f6 = some ⟨oc6, od6, .func (PySem.W.fnOf "is_length" "is_length" (defArgs sLength) (defBody sLength) (defScope sLength) .none kV6 dc6 pm6 an6 cd6 ct6), sl6⟩)
    (c6 : PySem.W.codeIn K cd6 "is_length" = true)
    (k6 : PySem.W.keepIn K (.ref f6) = true)
    (a7 : PySem.W.nsIn K mainGlobals "is_room" = some (some (.ref f7)))
    (l7 : K.lookup f7 = some ⟨oc7, od7, .func (PySem.W.fnOf "is_room" "is_room" (defArgs sRoom) (defBody sRoom) (defScope sRoom) .none kV7 dc7 pm7 an7 cd7 ct7), sl7⟩)
    (c7 : PySem.W.codeIn K cd7 "is_room" = true)
    (k7 : PySem.W.keepIn K (.ref f7) = true)
    (a8 : PySem.W.nsIn K mainGlobals "refuse_no_rooms" = some (some (.ref f8)))
    (l8 : K.lookup f8 = some ⟨oc8, od8, .func (PySem.W.fnOf "refuse_no_rooms" "refuse_no_rooms" (defArgs sRefR) (defBody sRefR) (defScope sRefR) .none kV8 dc8 pm8 an8 cd8 ct8), sl8⟩)
    (c8 : PySem.W.codeIn K cd8 "refuse_no_rooms" = true)
    (k8 : PySem.W.keepIn K (.ref f8) = true)
    (a9 : PySem.W.nsIn K mainGlobals "narrow_ones" = some (some (.ref f9)))
    (l9 : K.lookup f9 = some ⟨oc9, od9, .func (PySem.W.fnOf "narrow_ones" "narrow_ones" (defArgs sNar) (defBody sNar) (defScope sNar) .none kV9 dc9 pm9 an9 cd9 ct9), sl9⟩)
    (c9 : PySem.W.codeIn K cd9 "narrow_ones" = true)
    (k9 : PySem.W.keepIn K (.ref f9) = true)
    (a10 : PySem.W.nsIn K mainGlobals "words_on" = some (some (.ref f10)))
    (l10 : K.lookup f10 = some ⟨oc10, od10, .func (PySem.W.fnOf "words_on" "words_on" (defArgs sOn) (defBody sOn) (defScope sOn) .none kV10 dc10 pm10 an10 cd10 ct10), sl10⟩)
    (c10 : PySem.W.codeIn K cd10 "words_on" = true)
    (k10 : PySem.W.keepIn K (.ref f10) = true)
    (a11 : PySem.W.nsIn K mainGlobals "poured" = some (some (.ref f11)))
    (l11 : K.lookup f11 = some ⟨oc11, od11, .func (PySem.W.fnOf "poured" "poured" (defArgs sPour) (defBody sPour) (defScope sPour) .none kV11 dc11 pm11 an11 cd11 ct11), sl11⟩)
    (c11 : PySem.W.codeIn K cd11 "poured" = true)
    (k11 : PySem.W.keepIn K (.ref f11) = true)
    (a12 : PySem.W.nsIn K mainGlobals "_law_cell_at" = some (some (.ref f12)))
    (l12 : K.lookup f12 = some ⟨oc12, od12, .func (PySem.W.fnOf "_law_cell_at" "_law_cell_at" (defArgs sCellAt) (defBody sCellAt) (defScope sCellAt) .none kV12 dc12 pm12 an12 cd12 ct12), sl12⟩)
    (c12 : PySem.W.codeIn K cd12 "_law_cell_at" = true)
    (k12 : PySem.W.keepIn K (.ref f12) = true)
    (a13 : PySem.W.nsIn K mainGlobals "_law_take" = some (some (.ref f13)))
    (l13 : K.lookup f13 = some ⟨oc13, od13, .func (PySem.W.fnOf "_law_take" "_law_take" (defArgs sTake) (defBody sTake) (defScope sTake) .none kV13 dc13 pm13 an13 cd13 ct13), sl13⟩)
    (c13 : PySem.W.codeIn K cd13 "_law_take" = true)
    (k13 : PySem.W.keepIn K (.ref f13) = true)
    (a14 : PySem.W.nsIn K mainGlobals "_law_word" = some (some (.ref f14)))
    (l14 : K.lookup f14 = some ⟨oc14, od14, .func (PySem.W.fnOf "_law_word" "_law_word" (defArgs sLw) (defBody sLw) (defScope sLw) .none kV14 dc14 pm14 an14 cd14 ct14), sl14⟩)
    (c14 : PySem.W.codeIn K cd14 "_law_word" = true)
    (k14 : PySem.W.keepIn K (.ref f14) = true)
    (a15 : PySem.W.nsIn K mainGlobals "_law_rooms" = some (some (.ref f15)))
    (l15 : K.lookup f15 = some ⟨oc15, od15, .func (PySem.W.fnOf "_law_rooms" "_law_rooms" (defArgs sRooms) (defBody sRooms) (defScope sRooms) .none kV15 dc15 pm15 an15 cd15 ct15), sl15⟩)
    (c15 : PySem.W.codeIn K cd15 "_law_rooms" = true)
    (k15 : PySem.W.keepIn K (.ref f15) = true)
    (a16 : PySem.W.nsIn K mainGlobals "_law_reached" = some (some (.ref f16)))
    (l16 : K.lookup f16 = some ⟨oc16, od16, .func (PySem.W.fnOf "_law_reached" "_law_reached" (defArgs sReach) (defBody sReach) (defScope sReach) .none kV16 dc16 pm16 an16 cd16 ct16), sl16⟩)
    (c16 : PySem.W.codeIn K cd16 "_law_reached" = true)
    (k16 : PySem.W.keepIn K (.ref f16) = true)
    (a17 : PySem.W.nsIn K mainGlobals "law" = some (some (.ref f17)))
    (l17 : K.lookup f17 = some ⟨oc17, od17, .func (PySem.W.fnOf "law" "law" (defArgs sLaw) (defBody sLaw) (defScope sLaw) .none kV17 dc17 pm17 an17 cd17 ct17), sl17⟩)
    (c17 : PySem.W.codeIn K cd17 "law" = true)
    (k17 : PySem.W.keepIn K (.ref f17) = true)
    (C0m : PySem.W.nsIn K mainGlobals "PartError" = some (some (.ref C0)))
    (C1m : PySem.W.nsIn K mainGlobals "NoNeeds" = some (some (.ref C1)))
    (C2m : PySem.W.nsIn K mainGlobals "NoTexts" = some (some (.ref C2)))
    (z_len : PySem.W.nsIn K mainGlobals "len" = some none)
    (z_range : PySem.W.nsIn K mainGlobals "range" = some none)
    (z_sum : PySem.W.nsIn K mainGlobals "sum" = some none)
    (z_min : PySem.W.nsIn K mainGlobals "min" = some none)
    (z_max : PySem.W.nsIn K mainGlobals "max" = some none)
    (z_sorted : PySem.W.nsIn K mainGlobals "sorted" = some none)
    (z_isinstance : PySem.W.nsIn K mainGlobals "isinstance" = some none)
    (z_tuple : PySem.W.nsIn K mainGlobals "tuple" = some none)
    (z_str : PySem.W.nsIn K mainGlobals "str" = some none)
    (z_list : PySem.W.nsIn K mainGlobals "list" = some none)
    (z_int : PySem.W.nsIn K mainGlobals "int" = some none)
    (z_bool : PySem.W.nsIn K mainGlobals "bool" = some none)
    (z_all : PySem.W.nsIn K mainGlobals "all" = some none)
    (z_any : PySem.W.nsIn K mainGlobals "any" = some none)
    (z_ord : PySem.W.nsIn K mainGlobals "ord" = some none)
    (z_enumerate : PySem.W.nsIn K mainGlobals "enumerate" = some none)
    (g_LEFT_OUT : PySem.W.nsIn K mainGlobals "LEFT_OUT" = some (some (.int 37 t_LEFT_OUT)))
    (g_MOST_SIGNS : PySem.W.nsIn K mainGlobals "MOST_SIGNS" = some (some (.int 12 t_MOST_SIGNS)))
    (ex1 : PySem.W.excIn K C1 [.type "ValueError", .type "Exception", .type "BaseException", .type "object"] "ValueError.__new__" = true)
    (ex2 : PySem.W.excIn K C2 [.type "ValueError", .type "Exception", .type "BaseException", .type "object"] "ValueError.__new__" = true)
    (kt0 : PySem.W.kitOne K (.type "NoneType") (.type "str") = some false)
    (kt1 : PySem.W.kitOne K (.type "bool") (.type "str") = some false)
    (kt2 : PySem.W.kitOne K (.type "int") (.type "str") = some false)
    (kt3 : PySem.W.kitOne K (.type "list") (.type "str") = some false)
    (kt4 : PySem.W.kitOne K (.type "tuple") (.type "str") = some false)
    (kt5 : PySem.W.kitOne K (.type "dict") (.type "str") = some false)
    (kt6 : PySem.W.kitOne K (.type "NoneType") (.type "list") = some false)
    (kt7 : PySem.W.kitOne K (.type "str") (.type "list") = some false)
    (kt8 : PySem.W.kitOne K (.type "int") (.type "list") = some false)
    (kt9 : PySem.W.kitOne K (.type "tuple") (.type "list") = some false)
    (kt10 : PySem.W.kitOne K (.type "dict") (.type "list") = some false)
    (q_int0 : PySem.W.kitOne K (.type "NoneType") (.type "int") = some false)
    (q_int1 : PySem.W.kitOne K (.type "bool") (.type "int") = some true)
    (q_int2 : PySem.W.kitOne K (.type "int") (.type "int") = some true)
    (q_int3 : PySem.W.kitOne K (.type "str") (.type "int") = some false)
    (q_int4 : PySem.W.kitOne K (.type "tuple") (.type "int") = some false)
    (q_int5 : PySem.W.kitOne K (.type "list") (.type "int") = some false)
    (q_int6 : PySem.W.kitOne K (.type "dict") (.type "int") = some false)
    (q_bool0 : PySem.W.kitOne K (.type "NoneType") (.type "bool") = some false)
    (q_bool1 : PySem.W.kitOne K (.type "bool") (.type "bool") = some true)
    (q_bool2 : PySem.W.kitOne K (.type "int") (.type "bool") = some false)
    (q_bool3 : PySem.W.kitOne K (.type "str") (.type "bool") = some false)
    (q_bool4 : PySem.W.kitOne K (.type "tuple") (.type "bool") = some false)
    (q_bool5 : PySem.W.kitOne K (.type "list") (.type "bool") = some false)
    (q_bool6 : PySem.W.kitOne K (.type "dict") (.type "bool") = some false)
    (q_tuple0 : PySem.W.kitOne K (.type "NoneType") (.type "tuple") = some false)
    (q_tuple1 : PySem.W.kitOne K (.type "bool") (.type "tuple") = some false)
    (q_tuple2 : PySem.W.kitOne K (.type "int") (.type "tuple") = some false)
    (q_tuple3 : PySem.W.kitOne K (.type "str") (.type "tuple") = some false)
    (q_tuple4 : PySem.W.kitOne K (.type "tuple") (.type "tuple") = some true)
    (q_tuple5 : PySem.W.kitOne K (.type "list") (.type "tuple") = some false)
    (q_tuple6 : PySem.W.kitOne K (.type "dict") (.type "tuple") = some false)
    (q_list0 : PySem.W.kitOne K (.type "NoneType") (.type "list") = some false)
    (q_list1 : PySem.W.kitOne K (.type "bool") (.type "list") = some false)
    (q_list2 : PySem.W.kitOne K (.type "int") (.type "list") = some false)
    (q_list3 : PySem.W.kitOne K (.type "str") (.type "list") = some false)
    (q_list4 : PySem.W.kitOne K (.type "tuple") (.type "list") = some false)
    (q_list5 : PySem.W.kitOne K (.type "list") (.type "list") = some true)
    (q_list6 : PySem.W.kitOne K (.type "dict") (.type "list") = some false) :
    ∃ fd : FuncData, (∀ (s : Shared) (v : Value), BindsTo s fd ⟨[v], []⟩ [("script", v)]) ∧ ∀ base : Heap, K.In base → base.Ns mainGlobals mg → FnOk l.prog w K mg base CX0 6 fa fd ["script"] (spLaw K) := by
  have e := hfa.symm.trans (PySem.W.mg_of X G a17)
  cases e
  have F0 := fun_mk (st := sSign) l0 c0 k0
  have F1 := fun_mk (st := sWord) l1 c1 k1
  have F2 := fun_mk (st := sAre) l2 c2 k2
  have F3 := fun_mk (st := sRefuse) l3 c3 k3
  have F4 := fun_mk (st := sTaken) l4 c4 k4
  have F5 := fun_mk (st := sWhole) l5 c5 k5
  have F6 := fun_mk (st := sLength) l6 c6 k6
  have F7 := fun_mk (st := sRoom) l7 c7 k7
  have F8 := fun_mk (st := sRefR) l8 c8 k8
  have F9 := fun_mk (st := sNar) l9 c9 k9
  have F10 := fun_mk (st := sOn) l10 c10 k10
  have F11 := fun_mk (st := sPour) l11 c11 k11
  have F12 := fun_mk (st := sCellAt) l12 c12 k12
  have F13 := fun_mk (st := sTake) l13 c13 k13
  have F14 := fun_mk (st := sLw) l14 c14 k14
  have F15 := fun_mk (st := sRooms) l15 c15 k15
  have F16 := fun_mk (st := sReach) l16 c16 k16
  have F17 := fun_mk (st := sLaw) l17 c17 k17
  have Z : Nm K mg := ⟨⟨_, PySem.W.mg_of X G g_LEFT_OUT⟩, ⟨_, PySem.W.mg_of X G g_MOST_SIGNS⟩, (PySem.W.mg_none_of X G z_isinstance), (PySem.W.mg_none_of X G z_str), (PySem.W.mg_none_of X G z_list), (PySem.W.mg_none_of X G z_len), (PySem.W.mg_none_of X G z_all), (PySem.W.mg_none_of X G z_any), (PySem.W.mg_none_of X G z_ord), kt0, kt1, kt2, kt3, kt4, kt5, kt6, kt7, kt8, kt9, kt10⟩
  have Zr : Nr K mg := ⟨(PySem.W.mg_none_of X G z_isinstance), (PySem.W.mg_none_of X G z_int), (PySem.W.mg_none_of X G z_bool), (PySem.W.mg_none_of X G z_tuple), (PySem.W.mg_none_of X G z_list), (PySem.W.mg_none_of X G z_len), (PySem.W.mg_none_of X G z_all), (PySem.W.mg_none_of X G z_any), (PySem.W.mg_none_of X G z_sum), (PySem.W.mg_none_of X G z_enumerate), (fun t => by cases t; exact q_int0; exact q_int1; exact q_int2; exact q_int3; exact q_int4; exact q_int5; exact q_int6), (fun t => by cases t; exact q_bool0; exact q_bool1; exact q_bool2; exact q_bool3; exact q_bool4; exact q_bool5; exact q_bool6), (fun t => by cases t; exact q_tuple0; exact q_tuple1; exact q_tuple2; exact q_tuple3; exact q_tuple4; exact q_tuple5; exact q_tuple6), (fun t => by cases t; exact q_list0; exact q_list1; exact q_list2; exact q_list3; exact q_list4; exact q_list5; exact q_list6)⟩
  refine ⟨PySem.W.fnOf "law" "law" (defArgs sLaw) (defBody sLaw) (defScope sLaw) .none kV17 dc17 pm17 an17 cd17 ct17, fun s v => .of_eq rfl, fun base B _ => ?_⟩
  have Y0 : Callee l.prog w K mg base CX0 1 "is_sign" f0 _ ["sign"] spSign := ⟨ok_sign F0 Z, PySem.W.mg_of X G a0, k0, F0.binds fun _ _ _ _ _ _ us hl => match us, hl with | [_], _ => rfl⟩
  have Y1 : Callee l.prog w K mg base CX0 2 "is_word" f1 _ ["thing"] spWord := ⟨ok_word F1 Z Y0, PySem.W.mg_of X G a1, k1, F1.binds fun _ _ _ _ _ _ us hl => match us, hl with | [_], _ => rfl⟩
  have Y2 : Callee l.prog w K mg base CX0 3 "are_words" f2 _ ["things"] spAre := ⟨ok_are F2 Z Y1, PySem.W.mg_of X G a2, k2, F2.binds fun _ _ _ _ _ _ us hl => match us, hl with | [_], _ => rfl⟩
  have Y3 : Callee l.prog w K mg base (CXE l.prog w) 4 "refuse_no_words" f3 _ ["things"] (spRefuse C2) := ⟨ok_refuse F3 ⟨PySem.W.mg_of X G C2m, ex2⟩ Y2, PySem.W.mg_of X G a3, k3, F3.binds fun _ _ _ _ _ _ us hl => match us, hl with | [_], _ => rfl⟩
  have Y4 : Callee l.prog w K mg base CX0 1 "taken" f4 _ ["words", "wide"] spTaken := ⟨ok_taken F4 (PySem.W.mg_none_of X G z_len), PySem.W.mg_of X G a4, k4, F4.binds fun _ _ _ _ _ _ us hl => match us, hl with | [_, _], _ => rfl⟩
  have Y5 : Callee l.prog w K mg base CX0 1 "is_whole" f5 _ ["thing"] spWhole := ⟨ok_whole F5 Zr, PySem.W.mg_of X G a5, k5, F5.binds fun _ _ _ _ _ _ us hl => match us, hl with | [_], _ => rfl⟩
  have Y6 : Callee l.prog w K mg base CX0 2 "is_length" f6 _ ["thing"] spLength := ⟨ok_length F6 Y5, PySem.W.mg_of X G a6, k6, F6.binds fun _ _ _ _ _ _ us hl => match us, hl with | [_], _ => rfl⟩
  have Y7 : Callee l.prog w K mg base CX0 3 "is_room" f7 _ ["thing"] spRoom := ⟨ok_room F7 Zr Y6, PySem.W.mg_of X G a7, k7, F7.binds fun _ _ _ _ _ _ us hl => match us, hl with | [_], _ => rfl⟩
  have Y8 : Callee l.prog w K mg base (CXE l.prog w) 4 "refuse_no_rooms" f8 _ ["things"] (spRefR C1) := ⟨ok_refR F8 Zr ⟨PySem.W.mg_of X G C1m, ex1⟩ Y7, PySem.W.mg_of X G a8, k8, F8.binds fun _ _ _ _ _ _ us hl => match us, hl with | [_], _ => rfl⟩
  have Y9 : Callee l.prog w K mg base CX0 1 "narrow_ones" f9 _ ["words", "wide"] spNar := ⟨ok_nar F9 Zr, PySem.W.mg_of X G a9, k9, F9.binds fun _ _ _ _ _ _ us hl => match us, hl with | [_, _], _ => rfl⟩
  have Y10 : Callee l.prog w K mg base CX0 1 "words_on" f10 _ ["rows"] spOn := ⟨ok_on F10 Zr, PySem.W.mg_of X G a10, k10, F10.binds fun _ _ _ _ _ _ us hl => match us, hl with | [_], _ => rfl⟩
  have Y11 : Callee l.prog w K mg base (CXE l.prog w) 5 "poured" f11 _ ["words", "rooms"] (spPour C2 C1) := ⟨ok_pour F11 Y3 Y8 Y4 Y9 Y10, PySem.W.mg_of X G a11, k11, F11.binds fun _ _ _ _ _ _ us hl => match us, hl with | [_, _], _ => rfl⟩
  have Y12 : Callee l.prog w K mg base CX0 1 "_law_cell_at" f12 _ ["script", "k"] (spCellAt K) := ⟨ok_cellAt F12 (PySem.W.mg_none_of X G z_len), PySem.W.mg_of X G a12, k12, F12.binds fun _ _ _ _ _ _ us hl => match us, hl with | [_, _], _ => rfl⟩
  have Y13 : Callee l.prog w K mg base CX0 1 "_law_take" f13 _ ["deck", "many"] spTake := ⟨ok_take F13, PySem.W.mg_of X G a13, k13, F13.binds fun _ _ _ _ _ _ us hl => match us, hl with | [_, _], _ => rfl⟩
  have Y14 : Callee l.prog w K mg base CX0 2 "_law_word" f14 _ ["cell", "way"] spLw := ⟨ok_lw F14 (PySem.W.mg_none_of X G z_range) Y13, PySem.W.mg_of X G a14, k14, F14.binds fun _ _ _ _ _ _ us hl => match us, hl with | [_, _], _ => rfl⟩
  have Y15 : Callee l.prog w K mg base CX0 2 "_law_rooms" f15 _ ["script"] (spRooms K) := ⟨ok_rooms F15 (PySem.W.mg_none_of X G z_range) Y12 Y13, PySem.W.mg_of X G a15, k15, F15.binds fun _ _ _ _ _ _ us hl => match us, hl with | [_], _ => rfl⟩
  have Y16 : Callee l.prog w K mg base CX0 1 "_law_reached" f16 _ ["words", "first", "wide", "high"] spReach := ⟨ok_reach F16 (PySem.W.mg_none_of X G z_len) (PySem.W.mg_none_of X G z_range), PySem.W.mg_of X G a16, k16, F16.binds fun _ _ _ _ _ _ us hl => match us, hl with | [_, _, _, _], _ => rfl⟩
  exact ok_law F17 (PySem.W.mg_none_of X G z_len) (PySem.W.mg_none_of X G z_list) (PySem.W.mg_none_of X G z_sum) (PySem.W.mg_none_of X G z_range) (PySem.W.mg_none_of X G z_min) (PySem.W.mg_none_of X G z_max) (PySem.W.mg_none_of X G z_sorted) (PySem.W.mg_none_of X G z_int) Y12 Y14 Y15 Y11 Y16
end KW
open PySem PySem.W PyProof.Rows
set_option maxRecDepth 100000 in
set_option maxHeartbeats 0 in
theorem PySem.Challenge.cw_pagepart_k72_whole_no_way_puts_more_holds : PySem.Challenge.rw_pagepart_k72_whole_no_way_puts_more.Holds := by
  w_on; o_law; k_head; (case hw => w_witness2)
  k_fill
  refine L2.walk_ofK (l := PySem.Challenge.rw_pagepart_k72_whole_no_way_puts_more) (n := 63) (k := 6) (x := "script") (CX := L2.CX0) (sp := fun K => KW.spLaw K) rfl (by decide) rfl ⟨rfl, by decide, by decide⟩ (fun w h Y => PySem.W.kIn_of Y) ?F (fun K H a ns hl hO hS => ⟨a, ns, rfl, hS, hl, fun _ => rfl⟩) fun _ _ _ _ z => z
  case F =>
    intro w mg fa h KX G hmg 
    refine' KW.all_mk KX G hmg  ?a0 ?l0 ?c0 ?k0 ?a1 ?l1 ?c1 ?k1 ?a2 ?l2 ?c2 ?k2 ?a3 ?l3 ?c3 ?k3 ?a4 ?l4 ?c4 ?k4 ?a5 ?l5 ?c5 ?k5 ?a6 ?l6 ?c6 ?k6 ?a7 ?l7 ?c7 ?k7 ?a8 ?l8 ?c8 ?k8 ?a9 ?l9 ?c9 ?k9 ?a10 ?l10 ?c10 ?k10 ?a11 ?l11 ?c11 ?k11 ?a12 ?l12 ?c12 ?k12 ?a13 ?l13 ?c13 ?k13 ?a14 ?l14 ?c14 ?k14 ?a15 ?l15 ?c15 ?k15 ?a16 ?l16 ?c16 ?k16 ?a17 ?l17 ?c17 ?k17 ?C0m ?C1m ?C2m ?z_len ?z_range ?z_sum ?z_min ?z_max ?z_sorted ?z_isinstance ?z_tuple ?z_str ?z_list ?z_int ?z_bool ?z_all ?z_any ?z_ord ?z_enumerate ?g_LEFT_OUT ?g_MOST_SIGNS ?ex1 ?ex2 ?kt0 ?kt1 ?kt2 ?kt3 ?kt4 ?kt5 ?kt6 ?kt7 ?kt8 ?kt9 ?kt10 ?q_int0 ?q_int1 ?q_int2 ?q_int3 ?q_int4 ?q_int5 ?q_int6 ?q_bool0 ?q_bool1 ?q_bool2 ?q_bool3 ?q_bool4 ?q_bool5 ?q_bool6 ?q_tuple0 ?q_tuple1 ?q_tuple2 ?q_tuple3 ?q_tuple4 ?q_tuple5 ?q_tuple6 ?q_list0 ?q_list1 ?q_list2 ?q_list3 ?q_list4 ?q_list5 ?q_list6
    (case a0 => k_is)
    (case l0 => k_is)
    (case c0 => k_is)
    (case k0 => k_is)
    (case a1 => k_is)
    (case l1 => k_is)
    (case c1 => k_is)
    (case k1 => k_is)
    (case a2 => k_is)
    (case l2 => k_is)
    (case c2 => k_is)
    (case k2 => k_is)
    (case a3 => k_is)
    (case l3 => k_is)
    (case c3 => k_is)
    (case k3 => k_is)
    (case a4 => k_is)
    (case l4 => k_is)
    (case c4 => k_is)
    (case k4 => k_is)
    (case a5 => k_is)
    (case l5 => k_is)
    (case c5 => k_is)
    (case k5 => k_is)
    (case a6 => k_is)
    (case l6 => k_is)
    (case c6 => k_is)
    (case k6 => k_is)
    (case a7 => k_is)
    (case l7 => k_is)
    (case c7 => k_is)
    (case k7 => k_is)
    (case a8 => k_is)
    (case l8 => k_is)
    (case c8 => k_is)
    (case k8 => k_is)
    (case a9 => k_is)
    (case l9 => k_is)
    (case c9 => k_is)
    (case k9 => k_is)
    (case a10 => k_is)
    (case l10 => k_is)
    (case c10 => k_is)
    (case k10 => k_is)
    (case a11 => k_is)
    (case l11 => k_is)
    (case c11 => k_is)
    (case k11 => k_is)
    (case a12 => k_is)
    (case l12 => k_is)
    (case c12 => k_is)
    (case k12 => k_is)
    (case a13 => k_is)
    (case l13 => k_is)
    (case c13 => k_is)
    (case k13 => k_is)
    (case a14 => k_is)
    (case l14 => k_is)
    (case c14 => k_is)
    (case k14 => k_is)
    (case a15 => k_is)
    (case l15 => k_is)
    (case c15 => k_is)
    (case k15 => k_is)
    (case a16 => k_is)
    (case l16 => k_is)
    (case c16 => k_is)
    (case k16 => k_is)
    (case a17 => k_is)
    (case l17 => k_is)
    (case c17 => k_is)
    (case k17 => k_is)
    (case C0m => k_is)
    (case C1m => k_is)
    (case C2m => k_is)
    (case z_len => k_is)
    (case z_range => k_is)
    (case z_sum => k_is)
    (case z_min => k_is)
    (case z_max => k_is)
    (case z_sorted => k_is)
    (case z_isinstance => k_is)
    (case z_tuple => k_is)
    (case z_str => k_is)
    (case z_list => k_is)
    (case z_int => k_is)
    (case z_bool => k_is)
    (case z_all => k_is)
    (case z_any => k_is)
    (case z_ord => k_is)
    (case z_enumerate => k_is)
    (case g_LEFT_OUT => k_is)
    (case g_MOST_SIGNS => k_is)
    (case ex1 => kernel_rfl)
    (case ex2 => kernel_rfl)
    (case kt0 => kernel_rfl)
    (case kt1 => kernel_rfl)
    (case kt2 => kernel_rfl)
    (case kt3 => kernel_rfl)
    (case kt4 => kernel_rfl)
    (case kt5 => kernel_rfl)
    (case kt6 => kernel_rfl)
    (case kt7 => kernel_rfl)
    (case kt8 => kernel_rfl)
    (case kt9 => kernel_rfl)
    (case kt10 => kernel_rfl)
    (case q_int0 => kernel_rfl)
    (case q_int1 => kernel_rfl)
    (case q_int2 => kernel_rfl)
    (case q_int3 => kernel_rfl)
    (case q_int4 => kernel_rfl)
    (case q_int5 => kernel_rfl)
    (case q_int6 => kernel_rfl)
    (case q_bool0 => kernel_rfl)
    (case q_bool1 => kernel_rfl)
    (case q_bool2 => kernel_rfl)
    (case q_bool3 => kernel_rfl)
    (case q_bool4 => kernel_rfl)
    (case q_bool5 => kernel_rfl)
    (case q_bool6 => kernel_rfl)
    (case q_tuple0 => kernel_rfl)
    (case q_tuple1 => kernel_rfl)
    (case q_tuple2 => kernel_rfl)
    (case q_tuple3 => kernel_rfl)
    (case q_tuple4 => kernel_rfl)
    (case q_tuple5 => kernel_rfl)
    (case q_tuple6 => kernel_rfl)
    (case q_list0 => kernel_rfl)
    (case q_list1 => kernel_rfl)
    (case q_list2 => kernel_rfl)
    (case q_list3 => kernel_rfl)
    (case q_list4 => kernel_rfl)
    (case q_list5 => kernel_rfl)
    (case q_list6 => kernel_rfl)
#print axioms PySem.Challenge.cw_pagepart_k72_whole_no_way_puts_more_holds
