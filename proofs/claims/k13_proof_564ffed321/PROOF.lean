import PyProof.Rows.All
import Wide.All
import OpenK.AllK
import Wide.FinOn
import Lean
import PyProof.EqAt
import PyProof.EqKinds
import PyProof.TupleCall
import PyProof.Draws
import PyProof.EnumMake
import PyProof.TupleIter
import PyProof.WalksMore
import PyProof.MinMaxWalk
import PyProof.SeqI3
import KE.KSortTup
import KE.KLam
import KE.KIsAll
import PyProof.Rows.CallKwBuiltin
import PyProof.CompFree
import PyProof.CompUse
import PyProof.ConsumeWalk
import PyProof.SumWalk
import PyProof.NeKinds
import PyProof.Rows.StrJoin2
import PyProof.Rows.SortShell
import PyProof.StrBlock2
import PyProof.StrWalks
import PyProof.FString5
import PyProof.ZipIter
import PyProof.Rows.StrSplitAre
import PyProof.StrLawsTight
import PyProof.SumWalkG
import PyProof.Conv_int_bool
import KE.KRevIter
import PyProof.AutoSeq1
import PyProof.Rows.SortWalk
import PyProof.Rows.SeqMore
import PyProof.ListNew
import PyProof.CollectWalk
import PySem.Challenge.RW_pagepart_k13_beside_and_beneath
set_option Elab.async false
set_option linter.all false
set_option maxRecDepth 100000
namespace L2
open PySem PySem.Spec PyProof.Rows
abbrev Key := Sum Int Str
def keyIs : Key → Value → Bool
  | .inl k, v => Value.isInt k v
  | .inr x, v => Value.isStrOf x v
def keyH (w : World) : Key → Int
  | .inl k => hashInt k
  | .inr x => hashStr w x
theorem keyIs_shape : ∀ {k : Key} {v : Value}, keyIs k v = true → (∃ i t, k = Sum.inl i ∧ v = Value.int i t) ∨ (∃ x t, k = Sum.inr x ∧ v = Value.str x t)
  | .inl i, v, h => by
    obtain ⟨t, e⟩ := Value.isInt_shape (k := i) (v := v) h
    exact .inl ⟨i, t, rfl, e⟩
  | .inr x, v, h => by
    obtain ⟨t, e⟩ := Value.isStrOf_shape (x := x) (v := v) h
    exact .inr ⟨x, t, rfl, e⟩
theorem keyIs_int (i : Int) (t : Tok) : keyIs (.inl i) (.int i t) = true := by simp [keyIs, Value.isInt]
theorem keyIs_str (x : Str) (t : Tok) : keyIs (.inr x) (.str x t) = true := by simp [keyIs, Value.isStrOf]
theorem key_ll (a b : Int) : decide ((Sum.inl a : Key) = Sum.inl b) = (a == b) := by
  by_cases e : a = b
  · subst e; simp
  · have h : ¬ (Sum.inl a : Key) = Sum.inl b := fun q => e (Sum.inl.inj q)
    rw [decide_eq_false h]
    exact (beq_eq_false_iff_ne.mpr e).symm
theorem key_rr (a b : Str) : decide ((Sum.inr a : Key) = Sum.inr b) = decide (a = b) := by
  by_cases e : a = b
  · subst e; simp
  · have h : ¬ (Sum.inr a : Key) = Sum.inr b := fun q => e (Sum.inr.inj q)
    rw [decide_eq_false h, decide_eq_false e]
theorem key_lr (a : Int) (b : Str) : decide ((Sum.inl a : Key) = Sum.inr b) = false := decide_eq_false (fun q => nomatch q)
theorem key_rl (a : Str) (b : Int) : decide ((Sum.inr a : Key) = Sum.inl b) = false := decide_eq_false (fun q => nomatch q)
def mixKind (prog : Program) (w : World) : PySem.KeyKind prog w Key where
  is := keyIs
  hash := keyH w
  inj := fun v a b ha hb => by
    rcases keyIs_shape ha with ⟨i, t, rfl, rfl⟩ | ⟨x, t, rfl, rfl⟩
    · rcases keyIs_shape hb with ⟨j, u, rfl, e⟩ | ⟨y, u, rfl, e⟩
      · injection e with e1 _; rw [e1]
      · exact nomatch e
    · rcases keyIs_shape hb with ⟨j, u, rfl, e⟩ | ⟨y, u, rfl, e⟩
      · exact nomatch e
      · injection e with e1 _; rw [e1]
  byValue := fun k v h => by
    rcases keyIs_shape h with ⟨i, t, rfl, rfl⟩ | ⟨x, t, rfl, rfl⟩ <;> rfl
  pyHash := fun hv h => by
    rcases keyIs_shape hv with ⟨i, t, rfl, rfl⟩ | ⟨x, t, rfl, rfl⟩
    · exact wpAny_pyHash_int h
    · exact wpAny_pyHash_str h
  eqBool := fun hu hv h => by
    rcases keyIs_shape hu with ⟨i, t, rfl, rfl⟩ | ⟨x, t, rfl, rfl⟩
    · rcases keyIs_shape hv with ⟨j, u, rfl, rfl⟩ | ⟨y, u, rfl, rfl⟩
      · rw [key_ll] at h; exact wpAny_eqBool_int h
      · rw [key_lr] at h; exact SeqAt.EqAt.int_str i t y u _ _ _ _ h
    · rcases keyIs_shape hv with ⟨j, u, rfl, rfl⟩ | ⟨y, u, rfl, rfl⟩
      · rw [key_rl] at h; exact SeqAt.EqAt.str_int x t j u _ _ _ _ h
      · rw [key_rr] at h; exact wpAny_eqBool_str h
  «strs» := fun k x t v h => by
    rcases keyIs_shape h with ⟨i, u, rfl, e⟩ | ⟨y, u, rfl, e⟩
    · exact nomatch e
    · injection e with e1 _
      subst e1
      cases v <;> rfl
theorem mixKind_int (prog : Program) (w : World) (i : Int) (t : Tok) : (mixKind prog w).is (.inl i) (.int i t) = true := keyIs_int i t
theorem mixKind_str (prog : Program) (w : World) (x : Str) (t : Tok) : (mixKind prog w).is (.inr x) (.str x t) = true := keyIs_str x t
end L2
namespace L2
open PySem PySem.Spec PyProof.Rows
inductive V where
  | non | bl (b : Bool) | int (i : Int) | str (x : Str) | byt (b : Array UInt8) | flt (b : UInt64) | ref (a : Addr) | ty (n : String)
  deriving DecidableEq
def RelV : V → Value → Prop
  | .non, u => u = Value.none
  | .bl b, u => u = Value.bool b
  | .int i, u => ∃ t, u = Value.int i t
  | .str x, u => ∃ t, u = Value.str x t
  | .byt b, u => ∃ t, u = Value.bytes b t
  | .flt b, u => ∃ t, u = Value.float b t
  | .ref a, u => u = Value.ref a
  | .ty n, u => u = Value.type n
abbrev Vals : List V → List Value → Prop := Paired RelV
theorem Vals.length {xs : List V} {us : List Value} (r : Vals xs us) : xs.length = us.length := Paired.length r
theorem Vals.get : ∀ {xs : List V} {us : List Value} {i : Nat} {x : V}, Vals xs us → xs[i]? = some x → ∃ u, us[i]? = some u ∧ RelV x u
  | _, _, _, _, .nil, e => by simp at e
  | _, _, 0, _, .cons r _, e => by simp at e; subst e; exact ⟨_, rfl, r⟩
  | _, _, i + 1, x, .cons _ t, e => by
    obtain ⟨u, h1, h2⟩ := Vals.get (i := i) (x := x) t (by simpa using e)
    exact ⟨u, by simpa using h1, h2⟩
theorem Vals.set {x : V} {u : Value} (r : RelV x u) : ∀ {xs : List V} {us : List Value} (i : Nat), Vals xs us → Vals (xs.set i x) (us.set i u)
  | _, _, _, .nil => .nil
  | _, _, 0, .cons _ t => .cons r t
  | _, _, i + 1, .cons q t => .cons q (Vals.set r i t)
theorem Vals.append : ∀ {xs ys : List V} {us ws : List Value}, Vals xs us → Vals ys ws → Vals (xs ++ ys) (us ++ ws)
  | _, _, _, _, .nil, s => s
  | _, _, _, _, .cons r t, s => .cons r (Vals.append t s)
theorem Vals.take : ∀ {xs : List V} {us : List Value} (n : Nat), Vals xs us → Vals (xs.take n) (us.take n)
  | _, _, 0, _ => .nil
  | _, _, _ + 1, .nil => .nil
  | _, _, n + 1, .cons r t => .cons r (Vals.take n t)
theorem Vals.drop : ∀ {xs : List V} {us : List Value} (n : Nat), Vals xs us → Vals (xs.drop n) (us.drop n)
  | _, _, 0, r => r
  | _, _, _ + 1, .nil => .nil
  | _, _, n + 1, .cons _ t => Vals.drop n t
def RelO : Option V → Option Value → Prop
  | some v, some u => RelV v u
  | none, none => True
  | _, _ => False
def KV {κ : Type} : List (κ × V) → List (κ × Value) → Prop := Paired fun (p : κ × V) (q : κ × Value) => p.1 = q.1 ∧ RelV p.2 q.2
def kV : Key → V
  | .inl i => .int i
  | .inr x => .str x
inductive HO where
  /-- a list -/
  | lst (xs : List V)
  /-- a tuple (never changes) -/
  | tup (xs : List V)
  /-- a dict whose keys are ints and texts; one whose keys are tuples of ints and texts (the empty one is both) -/
  | dK (kvs : List (Key × V)) | dT (kvs : List (List Key × V))
  /-- a set of ints: its members, its size -/
  | set (S : Int → Bool) (n : Nat)
  /-- an instance of the class at C, its dict at dx, its attributes -/
  | ins (C dx : Addr) (fs : List (Str × V))
  /-- the dict of the instance at x -/
  | own (x : Addr)
  /-- the dict of an exception -/
  | xd (fs : List (Str × V))
  /-- a bound method, f of x -/
  | met (f x : Addr)
  /-- a range object lo, lo + 1, .. below hi -/
  | rng (lo hi : Int)
  /-- a thing that is known to the object (the script; a dict while a loop walks it): read, never written while it is so -/
  | frz (o : Obj) (u : HO)
  /-- a code object's table -/
  | tbl (ps : Array Value)
  /-- any other thing, by what is true of its one object (a def of one's own: SetO a S n := HO.ext fun h => ..) -/
  | ext (φ : Heap → Prop)
abbrev Hp := Addr → Option HO
def upd (H : Hp) (a : Addr) (o : HO) : Hp := fun b => if b = a then some o else H b
theorem upd_same {H : Hp} {a : Addr} {o : HO} : upd H a o a = some o := by unfold upd; rw [if_pos rfl]
theorem upd_ne {H : Hp} {a b : Addr} {o : HO} (h : b ≠ a) : upd H a o b = H b := by unfold upd; rw [if_neg h]
theorem ne_of {H : Hp} {a b : Addr} {o u : HO} (h : H a = some o) (h' : H b = some u) (d : o ≠ u) : a ≠ b := by
  intro e; subst e; rw [h] at h'; exact d (Option.some.inj h')
theorem ne_of_none {H : Hp} {a b : Addr} {o : HO} (h : H a = some o) (h' : H b = none) : a ≠ b := by
  intro e; subst e; rw [h] at h'; cases h'
section
variable (P : Program) (w : World)
def ObjOk (H : Hp) (h : Heap) (a : Addr) : HO → Prop
  | .lst xs => xs.length ≤ sizeLine ∧ ∃ (its : List Value) (n : Nat), Vals xs its ∧ h.get? a = some { cls := .type "list", data := .seq its.toArray n }
  | .tup xs => xs.length ≤ sizeLine ∧ ∃ its : List Value, Vals xs its ∧ IsTup h a its.toArray
  | .dK kvs => kvs.length ≤ sizeLine ∧ (a == sysModules) = false ∧ ∃ vs, KV kvs vs ∧ h.DictOf (mixKind P w) a vs
  | .dT kvs => kvs.length ≤ sizeLine ∧ (a == sysModules) = false ∧ ∃ xs : List (List Key × Addr × Value),
      Paired (fun (p : List Key × V) (q : List Key × Addr × Value) => p.1 = q.1 ∧ H q.2.1 = some (.tup (p.1.map kV)) ∧ RelV p.2 q.2.2) kvs xs ∧
      ∃ o es ep, h.get? a = some o ∧ o.ExactDict ∧ o.data = .dict es ep ∧ es.toList = xs.map (entryOfKey (tupleKind (mixKind P w))) ∧ (xs.map (·.1)).Nodup
  | .set S n => h.SetOf (intKind P w) a S n
  | .ins C dx fs => H dx = some (.own a) ∧ fs.length ≤ 1000 ∧ dx ≠ a ∧ h.get? a = some (PySem.W.instObj C dx) ∧
      ∃ mA, h.Ns1 dx mA ∧ (∀ f, RelO (fs.lookup f) (mA f)) ∧ PySem.Within mA (fs.map (·.1))
  | .own _ => ∃ o, h.get? a = some o
  | .xd fs => ∃ mA, h.Ns1 a mA ∧ ∀ f, RelO (fs.lookup f) (mA f)
  | .rng lo hi => ∃ t u v, h.get? a = some { cls := .type "range", data := .fields #[.int lo t, .int hi u, .int 1 v] }
  | .frz o u => h.get? a = some o ∧ ObjOk H h a u
  | .tbl ps => h.get? a = some { cls := .none, data := .fields ps }
  | .met f x => h.get? a = some (PySem.W.methodObj (.ref f) (.ref x))
  | .ext φ => φ h ∧ (∃ o, h.get? a = some o) ∧ ∀ h1 h2 : Heap, φ h1 → (∀ o, h1.get? a = some o → h2.get? a = some o) → φ h2
def HOk (H : Hp) (h : Heap) : Prop := ∀ a o, H a = some o → ObjOk P w H h a o
end
section
variable {P : Program} {w : World} {H H' : Hp} {h h' : Heap} {a : Addr} {o : HO}
theorem ObjOk.lt (x : ObjOk P w H h a o) : a < h.objs.size := by
  cases o with
  | lst xs => obtain ⟨_, _, _, _, e⟩ := x; exact Heap.lt_size e
  | tup xs => obtain ⟨_, _, _, p⟩ := x; exact p.lt
  | dK kvs => obtain ⟨_, _, _, _, o, _, _, e, _⟩ := x; exact Heap.lt_size e
  | dT kvs => obtain ⟨_, _, _, _, o, _, _, e, _⟩ := x; exact Heap.lt_size e
  | set S n => obtain ⟨o, _, _, _, e, _⟩ := x; exact Heap.lt_size e
  | ins C dx fs => obtain ⟨_, _, _, e, _⟩ := x; exact Heap.lt_size e
  | own y => obtain ⟨_, e⟩ := x; exact Heap.lt_size e
  | xd fs => obtain ⟨_, ⟨_, _, _, e, _⟩, _⟩ := x; exact Heap.lt_size e
  | rng lo hi => obtain ⟨_, _, _, e⟩ := x; exact Heap.lt_size e
  | frz ob u => obtain ⟨e, _⟩ := x; exact Heap.lt_size e
  | tbl ps => exact Heap.lt_size (show h.get? a = some _ from x)
  | met f y => exact Heap.lt_size (show h.get? a = some _ from x)
  | ext φ => obtain ⟨_, ⟨_, e⟩, _⟩ := x; exact Heap.lt_size e
theorem Paired.mapP {α β : Type} {F G : α → β → Prop} : ∀ {l₁ : List α} {l₂ : List β}, Paired F l₁ l₂ → (∀ a b, F a b → G a b) → Paired G l₁ l₂
  | _, _, .nil, _ => .nil
  | _, _, .cons r t, f => .cons (f _ _ r) (Paired.mapP t f)
theorem Paired.imp' {α β : Type} {F G : α → β → Prop} (f : ∀ a b, F a b → G a b) {l₁ : List α} {l₂ : List β} (r : Paired F l₁ l₂) : Paired G l₁ l₂ := Paired.mapP r f
theorem ObjOk.stay (x : ObjOk P w H h a o) (k : ∀ b u, (b = a ∨ H b = some (.own a)) → h.get? b = some u → h'.get? b = some u)
    (ho : ∀ b, H b = some (.own a) → H' b = some (.own a)) (ht : ∀ b xs, H b = some (.tup xs) → H' b = some (.tup xs)) : ObjOk P w H' h' a o := by
  induction o with
  | lst xs => obtain ⟨z, its, n, r, e⟩ := x; exact ⟨z, its, n, r, k _ _ (.inl rfl) e⟩
  | tup xs => obtain ⟨z, its, r, ob, e, c⟩ := x; exact ⟨z, its, r, ob, k _ _ (.inl rfl) e, c⟩
  | dK kvs => obtain ⟨z, y, vs, r, ob, es, ep, e, c⟩ := x; exact ⟨z, y, vs, r, ob, es, ep, k _ _ (.inl rfl) e, c⟩
  | dT kvs =>
    obtain ⟨z, y, xs, r, ob, es, ep, e, c⟩ := x
    exact ⟨z, y, xs, Paired.mapP r fun p q z => ⟨z.1, ht _ _ z.2.1, z.2.2⟩, ob, es, ep, k _ _ (.inl rfl) e, c⟩
  | set S n => obtain ⟨ob, es, ep, t, e, c⟩ := x; exact ⟨ob, es, ep, t, k _ _ (.inl rfl) e, c⟩
  | ins C dx fs =>
    obtain ⟨d, z, ne, e, mA, ⟨od, es, ep, e2, c⟩, r⟩ := x
    exact ⟨ho _ d, z, ne, k _ _ (.inl rfl) e, mA, ⟨od, es, ep, k _ _ (.inr d) e2, c⟩, r⟩
  | own y => obtain ⟨ob, e⟩ := x; exact ⟨ob, k _ _ (.inl rfl) e⟩
  | xd fs => obtain ⟨mA, ⟨od, es, ep, e, c⟩, r⟩ := x; exact ⟨mA, ⟨od, es, ep, k _ _ (.inl rfl) e, c⟩, r⟩
  | rng lo hi => obtain ⟨t, u, v, e⟩ := x; exact ⟨t, u, v, k _ _ (.inl rfl) e⟩
  | frz ob u ih => obtain ⟨e, q⟩ := x; exact ⟨k _ _ (.inl rfl) e, ih q⟩
  | tbl ps =>
    have e : h.get? a = some { cls := .none, data := .fields ps } := x
    show h'.get? a = some { cls := .none, data := .fields ps }
    exact k a _ (.inl rfl) e
  | met f y =>
    have e : h.get? a = some (PySem.W.methodObj (.ref f) (.ref y)) := x
    show h'.get? a = some (PySem.W.methodObj (.ref f) (.ref y))
    exact k a _ (.inl rfl) e
  | ext φ => obtain ⟨p, ⟨o, e⟩, st⟩ := x; exact ⟨st _ _ p fun o q => k _ _ (.inl rfl) q, ⟨o, k _ _ (.inl rfl) e⟩, st⟩
theorem HOk.lt (x : HOk P w H h) (e : H a = some o) : a < h.objs.size := (x a o e).lt
theorem HOk.fresh (x : HOk P w H h) (e : h.objs.size ≤ a) : H a = none := by
  cases q : H a with
  | none => rfl
  | some u => exact absurd (Nat.lt_of_lt_of_le (x.lt q) e) (Nat.lt_irrefl _)
theorem HOk.kept (x : HOk P w H h) (k : ∀ b u, h.get? b = some u → h'.get? b = some u) : HOk P w H h' := fun a o e =>
  (x a o e).stay (fun b u _ q => k b u q) (fun _ q => q) fun _ _ q => q
theorem HOk.laid (x : HOk P w H h) (k : ∀ b u, h.get? b = some u → h'.get? b = some u) (hp : h.objs.size ≤ a) (new : ObjOk P w (upd H a o) h' a o) : HOk P w (upd H a o) h' := fun b u e => by
  have hn := x.fresh hp
  by_cases hb : b = a
  · subst hb; rw [upd_same] at e; cases e; exact new
  · rw [upd_ne hb] at e
    exact (x b u e).stay (fun c v _ q => k c v q) (fun c q => by rw [upd_ne (ne_of_none q hn)]; exact q) fun c xs q => by rw [upd_ne (ne_of_none q hn)]; exact q
end
def Rd (H : Hp) (a : Addr) (u : HO) : Prop := H a = some u ∨ ∃ o, H a = some (.frz o u)
theorem Rd.ok {P : Program} {w : World} {H : Hp} {h : Heap} {a : Addr} {u : HO} (r : Rd H a u) (x : HOk P w H h) : ObjOk P w H h a u := by
  rcases r with r | ⟨o, r⟩
  · exact x a u r
  · obtain ⟨_, q⟩ := x a _ r
    exact q
def Mut : Option HO → Prop
  | some (.lst _) => True
  | some (.dK _) => True
  | some (.dT _) => True
  | some (.set _ _) => True
  | some (.ins _ _ _) => True
  | some (.ext _) => True
  | _ => False
section
variable {P : Program} {w : World} {H : Hp} {h h' : Heap} {x e : Addr} {o' : HO}
theorem HOk.write (ok : HOk P w H h) (mu : Mut (H x)) (he : e = x ∨ H e = some (.own x)) (k : ∀ b u, b ≠ e → h.get? b = some u → h'.get? b = some u) (heo : ∃ u, h'.get? e = some u)
    (new : ObjOk P w (upd H x o') h' x o') : HOk P w (upd H x o') h' := fun b u q => by
  have nown : ∀ c y, H c = some (.own y) → c ≠ x := fun c y r z => by subst z; rw [r] at mu; exact mu
  have ntup : ∀ c xs, H c = some (.tup xs) → c ≠ x := fun c xs r z => by subst z; rw [r] at mu; exact mu
  by_cases hb : b = x
  · subst hb; rw [upd_same] at q; cases q; exact new
  · rw [upd_ne hb] at q
    by_cases hbe : b = e
    · have q' : H b = some (.own x) := by
        rcases he with z | z
        · exact absurd (hbe.trans z) hb
        · rw [hbe]; exact z
      rw [q] at q'; cases q'
      obtain ⟨v, hv⟩ := heo
      exact ⟨v, by rw [hbe]; exact hv⟩
    · refine (ok b u q).stay (fun c v hc r => k c v ?_ r) (fun c r => by rw [upd_ne (nown c b r)]; exact r) fun c xs r => by rw [upd_ne (ntup c xs r)]; exact r
      rcases hc with rfl | hc
      · exact hbe
      · rintro rfl
        rcases he with z | z
        · exact nown c b hc z
        · rw [hc] at z; cases z; exact hb rfl
end
structure Un (fs ex : List Addr) (H H' : Hp) (h h' : Heap) : Prop where
  keep : ∀ b o, h.get? b = some o → H b = none → b ∉ fs → b ∉ ex → h'.get? b = some o
  slot : ∀ b o, h.get? b = some o → H b = none → b ∈ fs → b ∉ ex → ∃ sl, h'.get? b = some { o with slots := sl }
  free : ∀ b o, h.get? b = some o → H b = none → b ∉ ex → H' b = none
  there : ∀ b o, h.get? b = some o → b ∉ ex → ∃ o', h'.get? b = some o'
  tups : ∀ b xs, H b = some (.tup xs) → H' b = some (.tup xs)
  frzs : ∀ b o u, H b = some (.frz o u) → H' b = some (.frz o u)
  tbls : ∀ b ps, H b = some (.tbl ps) → ∃ more, H' b = some (.tbl (ps ++ more))
section
variable {fs fs' ex ex' : List Addr} {H H1 H2 : Hp} {h h1 h2 h' : Heap} {a x e : Addr} {o : HO}
theorem Un.any (u : Un fs ex H H1 h h1) {b : Addr} {ob : Obj} (q : h.get? b = some ob) (n : H b = none) (hx : b ∉ ex) : ∃ sl, h1.get? b = some { ob with slots := sl } := by
  by_cases hb : b ∈ fs
  · exact u.slot b ob q n hb hx
  · exact ⟨ob.slots, u.keep b ob q n hb hx⟩
theorem Un.kept (k : ∀ b u, h.get? b = some u → h'.get? b = some u) : Un fs ex H H h h' :=
  ⟨fun b ob q _ _ _ => k b ob q, fun b ob q _ _ _ => ⟨ob.slots, k b ob q⟩, fun _ _ _ n _ => n, fun b ob q _ => ⟨ob, k b ob q⟩, fun _ _ q => q, fun _ _ _ q => q, fun _ ps q => ⟨#[], by rw [q]; simp⟩⟩
theorem Un.refl : Un fs ex H H h h := Un.kept fun _ _ q => q
theorem Un.laid (k : ∀ b u, h.get? b = some u → h'.get? b = some u) (hp : h.objs.size ≤ a) (hn : H a = none) : Un fs ex H (upd H a o) h h' where
  keep := fun b u q _ _ _ => k b u q
  slot := fun b u q _ _ _ => ⟨u.slots, k b u q⟩
  free := fun b u q n _ => by rw [upd_ne (Nat.ne_of_lt (Nat.lt_of_lt_of_le (Heap.lt_size q) hp))]; exact n
  there := fun b u q _ => ⟨u, k b u q⟩
  tups := fun b xs q => by rw [upd_ne (ne_of_none q hn)]; exact q
  frzs := fun b u xs q => by rw [upd_ne (ne_of_none q hn)]; exact q
  tbls := fun b ps q => ⟨#[], by rw [upd_ne (ne_of_none q hn), q]; simp⟩
theorem Un.write (mu : Mut (H x)) (he : e = x ∨ H e = some (.own x)) (k : ∀ b u, b ≠ e → h.get? b = some u → h'.get? b = some u) (heo : ∃ u, h'.get? e = some u) : Un fs ex H (upd H x o) h h' := by
  have hx : ∀ b, H b = none → b ≠ x := fun b n z => by subst z; rw [n] at mu; exact mu
  have hb : ∀ b, H b = none → b ≠ e := fun b n z => by
    subst z
    rcases he with r | r
    · exact hx b n r
    · rw [n] at r; cases r
  have hm : ∀ b u, H b = some u → ¬ Mut (some u) → b ≠ x := fun b u q nm z => by subst z; rw [q] at mu; exact nm mu
  refine ⟨fun b u q n _ _ => k b u (hb b n) q, fun b u q n _ _ => ⟨u.slots, k b u (hb b n) q⟩, fun b u q n _ => by rw [upd_ne (hx b n)]; exact n, fun b u q _ => ?_,
    fun b xs q => by rw [upd_ne (hm b _ q fun z => z)]; exact q, fun b u xs q => by rw [upd_ne (hm b _ q fun z => z)]; exact q, fun b ps q => ⟨#[], by rw [upd_ne (hm b _ q fun z => z), q]; simp⟩⟩
  by_cases hbe : b = e
  · subst hbe; exact heo
  · exact ⟨u, k b u hbe q⟩
end
def trk (h : Heap) (H : Hp) : List Addr := (List.range h.objs.size).filter fun a => (H a).isSome
def hidT (h : Heap) (H : Hp) : Heap := PySem.W.hideAll h (trk h H)
theorem hidT_size (h : Heap) (H : Hp) : (hidT h H).objs.size = h.objs.size := PySem.W.hideAll_size _ _
theorem hidT_get {h : Heap} {H : Hp} {b : Addr} {o : Obj} (e : h.get? b = some o) (n : H b = none) : (hidT h H).get? b = some o :=
  PySem.W.hideAll_get _ e fun hm => by
    have q : (H b).isSome = true := (List.mem_filter.mp hm).2
    rw [n] at q; simp at q
theorem of_hidT {h : Heap} {H : Hp} {b : Addr} {o : Obj} (e : (hidT h H).get? b = some o) : h.get? b = some o ∧ H b = none := by
  have e' : h.get? b = some o := PySem.W.of_hideAll (trk h H) e
  refine ⟨e', ?_⟩
  cases q : H b with
  | none => rfl
  | some x =>
    have hm : b ∈ trk h H := List.mem_filter.mpr ⟨List.mem_range.mpr (Heap.lt_size e'), by simp [q]⟩
    have z : (hidT h H).get? b = none := PySem.W.hideAll_none (trk h H) hm
    rw [z] at e; cases e
end L2
namespace L2
open PySem PySem.Spec PyProof.Rows
structure Mod (K : PySem.W.Frag) (mg : Str → Option Value) (base : Heap) : Prop where
  kin : K.In base
  glob : base.Ns mainGlobals mg
  blt : ∃ mb, base.Ns builtinsNs mb ∧ ∀ x : Str, x ≠ "__name__" → mb x = bootBuiltins x
  nolimit : base.NoLimit
structure Cx where
  prog : Program
  w : World
  K : PySem.W.Frag
  mg : Str → Option Value
  base : Heap
  A : Around
  N : List Str
  s₀ : Shared
  H₀ : Hp
  env : Env
  outer : List Env
  stack : List Env
  ex : List Addr
  fn : Str → Bool
  calm : Bool
  pn : List (Addr × Obj)
  xe : Value → Shared → Prop
def frs (l : List Env) : List Addr := l.filterMap (·.frame)
abbrev Cx.fs (X : Cx) : List Addr := frs X.outer
def Vis (sc : Scope) (x : Str) : Prop := sc.names.lookup x = some .local ∨ sc.names.lookup x = some .cell ∨ sc.names.lookup x = some .free
def Loc (sc : Scope) (x : Str) : Prop := sc.names.lookup x = some .local ∨ sc.names.lookup x = some .cell
def Look (env : Env) (h : Heap) (m : Str → Option Value) (x : Str) (u : Value) : Prop :=
  (env.kindOf x = some .local ∧ m x = some u) ∨ ((env.kindOf x = some .cell ∨ env.kindOf x = some .free) ∧ ∃ c, env.cells.lookup x = some c ∧ h.IsCell c (some u))
structure Cx.Ok (X : Cx) : Prop where
  mod : Mod X.K X.mg X.base
  kind : X.env.scope.kind = .function
  glob : X.env.globals = mainGlobals
  blt : X.env.builtins = builtinsNs
  above : X.s₀.heap.objs.size ≤ X.env.locals
  inj : ∀ x y c, X.env.cells.lookup x = some c → X.env.cells.lookup y = some c → x = y
  has : ∀ x, (X.env.kindOf x = some .cell ∨ X.env.kindOf x = some .free) → ∃ c, X.env.cells.lookup x = some c
  cab : ∀ x c, X.fn x = true → X.env.cells.lookup x = some c → X.s₀.heap.objs.size ≤ c
  hd : X.calm = true → X.A.handled = none
  frames : X.A.frames = some X.stack
  stk : X.stack = X.outer ∨ (X.stack = X.env :: X.outer ∧ X.env.frame = some X.env.locals)
  exf : ∀ b ∈ X.ex, b ≠ X.env.locals ∧ ∀ x c, X.env.cells.lookup x = some c → c ≠ b
  bs : ∀ b o, X.base.get? b = some o → X.s₀.heap.get? b = some o ∧ X.H₀ b = none
  bsz : X.base.objs.size ≤ X.s₀.heap.objs.size
  noex : ∀ b o, X.base.get? b = some o → b ∉ X.ex
  exfs : ∀ b ∈ X.ex, b ∉ X.fs
  funs : X.s₀.heap.FunFrames X.base X.outer
  frf : ∀ b ∈ X.fs, X.H₀ b = none
structure Inv (X : Cx) (pins : List (Addr × Obj)) (σ : List (Option V)) (H : Hp) (s : Shared) : Prop where
  ok : X.Ok
  os : s.os = X.s₀.os
  bare : AllBare s.gens
  base : Un X.fs X.ex X.H₀ H X.s₀.heap s.heap
  loc : ∃ m, s.heap.Ns X.env.locals m ∧ ∀ (i : Nat) (x : Str) (v : V), X.N[i]? = some x → σ[i]? = some (some v) → Vis X.env.scope x → ∃ u, RelV v u ∧ Look X.env s.heap m x u
  cell : ∀ x c, X.env.cells.lookup x = some c → ∃ v, s.heap.IsCell c v
  free : H X.env.locals = none
  freeC : ∀ x c, X.env.cells.lookup x = some c → H c = none
  pin : ∀ p ∈ X.pn ++ pins, s.heap.get? p.1 = some p.2 ∧ H p.1 = none ∧ p.1 ≠ X.env.locals ∧ p.1 ∉ X.fs ∧ ∀ v, p.2.data ≠ .cell v
  hok : HOk X.prog X.w H s.heap
  len : σ.length = X.N.length
section
variable {X : Cx} {pins : List (Addr × Obj)} {σ : List (Option V)} {H H' : Hp} {s : Shared} {h' : Heap}
theorem Cx.Ok.nofr (ok : X.Ok) {b : Addr} {o : Obj} (e : X.base.get? b = some o) : b ∉ X.fs := fun hb => by
  have := (ok.funs.mem hb).1
  rw [e] at this; cases this
theorem Inv.bs (I : Inv X pins σ H s) : ∀ b o, X.base.get? b = some o → s.heap.get? b = some o ∧ H b = none := fun b o e =>
  ⟨I.base.keep b o (I.ok.bs b o e).1 (I.ok.bs b o e).2 (I.ok.nofr e) (I.ok.noex b o e), I.base.free b o (I.ok.bs b o e).1 (I.ok.bs b o e).2 (I.ok.noex b o e)⟩
theorem Inv.bk (I : Inv X pins σ H s) : ∀ b o, X.base.get? b = some o → s.heap.get? b = some o := fun b o e => (I.bs b o e).1
theorem Inv.mod (I : Inv X pins σ H s) : Mod X.K X.mg X.base := I.ok.mod
theorem Inv.kIn (I : Inv X pins σ H s) : X.K.In s.heap := I.ok.mod.kin.keeps I.bk
theorem Inv.nolimit (I : Inv X pins σ H s) : s.heap.NoLimit := I.ok.mod.nolimit.keeps I.bk
theorem Inv.lt (I : Inv X pins σ H s) : X.env.locals < s.heap.objs.size := let ⟨_, hn, _⟩ := I.loc; hn.lt
theorem Inv.sz (I : Inv X pins σ H s) : X.s₀.heap.objs.size ≤ s.heap.objs.size := Nat.le_trans I.ok.above (Nat.le_of_lt I.lt)
theorem Inv.nofs (I : Inv X pins σ H s) {a : Addr} (h : s.heap.objs.size ≤ a) : a ∉ X.fs := fun hb => by
  obtain ⟨_, o, ho, _⟩ := I.ok.funs.mem hb
  exact absurd (Nat.lt_of_lt_of_le (Heap.lt_size ho) (Nat.le_trans I.sz h)) (Nat.lt_irrefl _)
theorem Inv.cne (I : Inv X pins σ H s) : ∀ x c, X.env.cells.lookup x = some c → c ≠ X.env.locals := fun x c e z => by
  obtain ⟨v, o, ho, hd⟩ := I.cell x c e
  obtain ⟨m, ⟨o', es, ep, ho', hd', _⟩, _⟩ := I.loc
  rw [z, ho'] at ho; cases ho; rw [hd'] at hd; cases hd
theorem Inv.funs (I : Inv X pins σ H s) : s.heap.FunFrames X.base X.outer := by
  have all : ∀ (l : List Env), (∀ b ∈ frs l, b ∈ X.fs) → X.s₀.heap.FunFrames X.base l → s.heap.FunFrames X.base l := by
    intro l
    induction l with
    | nil => intro _ _; trivial
    | cons env r ih =>
      intro hs hl
      obtain ⟨hk, ⟨L, o, hf, hn, ho, hd⟩, hr⟩ := hl
      have hL : L ∈ X.fs := hs L (by unfold frs; rw [List.filterMap_cons, hf]; exact List.mem_cons_self)
      obtain ⟨sl, e⟩ := I.base.slot L o ho (I.ok.frf L hL) hL fun z => I.ok.exfs L z hL
      exact ⟨hk, ⟨L, _, hf, hn, e, hd⟩, ih (fun b hb => hs b (by unfold frs; rw [List.filterMap_cons, hf]; exact List.mem_cons_of_mem _ hb)) hr⟩
  exact all X.outer (fun _ hb => hb) I.ok.funs
theorem Inv.stack (I : Inv X pins σ H s) : s.heap.FunFrames X.base X.stack := by
  rcases I.ok.stk with e | ⟨e, hf⟩
  · rw [e]; exact I.funs
  · rw [e]
    obtain ⟨m, hn, _⟩ := I.loc
    refine .cons (by rw [I.ok.kind]; decide) hf hn ?_ I.funs
    exact Heap.get?_none_of_le (Nat.le_trans I.ok.bsz I.ok.above)
theorem Inv.stkSub (I : Inv X pins σ H s) : ∀ b ∈ frs X.stack, b ∈ X.env.locals :: X.fs := fun b hb => by
  rcases I.ok.stk with e | ⟨e, hf⟩
  · rw [e] at hb; exact List.mem_cons_of_mem _ hb
  · rw [e] at hb
    unfold frs at hb
    rw [List.filterMap_cons, hf] at hb
    exact hb
theorem Inv.stkFree (I : Inv X pins σ H s) : ∀ b ∈ frs X.stack, H b = none := fun b hb => by
  rcases List.mem_cons.mp (I.stkSub b hb) with e | hb
  · rw [e]; exact I.free
  · obtain ⟨_, o, ho, _⟩ := I.ok.funs.mem hb
    exact I.base.free b o ho (I.ok.frf b hb) fun z => I.ok.exfs b z hb
theorem Inv.step {g' : Array GenState} {t' : Nat} {d' : Drawn} {ch : List Addr} (I : Inv X pins σ H s)
    (hch : ∀ b ∈ ch, (b ∈ X.ex ∨ X.s₀.heap.objs.size ≤ b) ∧ b ≠ X.env.locals ∧ (∀ x c, X.env.cells.lookup x = some c → c ≠ b) ∧ ∀ p ∈ X.pn ++ pins, p.1 ≠ b)
    (keep : ∀ b o, b ≠ X.env.locals → b ∉ X.fs → b ∉ ch → s.heap.get? b = some o → H b = none → h'.get? b = some o)
    (slot : ∀ b o, b ≠ X.env.locals → b ∈ X.fs → b ∉ ch → s.heap.get? b = some o → H b = none → ∃ sl, h'.get? b = some { o with slots := sl }) (free : ∀ b o, b ∉ ch → s.heap.get? b = some o → H b = none → H' b = none)
    (there : ∀ b o, b ∉ ch → s.heap.get? b = some o → ∃ o', h'.get? b = some o')
    (tups : ∀ b xs, H b = some (.tup xs) → H' b = some (.tup xs)) (frzs : ∀ b o u, H b = some (.frz o u) → H' b = some (.frz o u)) (tbls : ∀ b ps, H b = some (.tbl ps) → ∃ more, H' b = some (.tbl (ps ++ more)))
    (ns : ∀ m, s.heap.Ns X.env.locals m → h'.Ns X.env.locals m) (hok : HOk X.prog X.w H' h') (hg : AllBare g') :
    Inv X pins σ H' { s with heap := h', gens := g', drawn := d', toks := t' } := by
  have neL : ∀ b o, X.s₀.heap.get? b = some o → b ≠ X.env.locals := fun b o e => Nat.ne_of_lt (Nat.lt_of_lt_of_le (Heap.lt_size e) I.ok.above)
  have neC : ∀ b o, X.s₀.heap.get? b = some o → b ∉ X.ex → b ∉ ch := fun b o e hx hb => by
    rcases (hch b hb).1 with z | z
    · exact hx z
    · exact absurd (Nat.lt_of_lt_of_le (Heap.lt_size e) z) (Nat.lt_irrefl _)
  have cellK : ∀ x c, X.env.cells.lookup x = some c → ∀ v, s.heap.IsCell c v → h'.IsCell c v := fun x c e v ⟨o, ho, hd⟩ => by
    have nch : c ∉ ch := fun z => (hch c z).2.2.1 x c e rfl
    by_cases hc : c ∈ X.fs
    · obtain ⟨sl, q⟩ := slot c o (I.cne x c e) hc nch ho (I.freeC x c e)
      exact ⟨_, q, hd⟩
    · exact ⟨o, keep c o (I.cne x c e) hc nch ho (I.freeC x c e), hd⟩
  refine ⟨I.ok, I.os, hg, ⟨fun b o e n hb hx => ?_, fun b o e n hb hx => ?_, fun b o e n hx => ?_, fun b o e hx => ?_, fun b xs e => tups b xs (I.base.tups b xs e), fun b o xs e => frzs b o xs (I.base.frzs b o xs e), fun b ps e => ?_⟩, ?_, fun x c e => ?_, ?_, fun x c e => ?_, fun p hp => ?_, hok, I.len⟩
  · exact keep b o (neL b o e) hb (neC b o e hx) (I.base.keep b o e n hb hx) (I.base.free b o e n hx)
  · obtain ⟨sl, e1⟩ := I.base.slot b o e n hb hx
    obtain ⟨sl', e2⟩ := slot b _ (neL b o e) hb (neC b o e hx) e1 (I.base.free b o e n hx)
    exact ⟨sl', e2⟩
  · obtain ⟨o', e1⟩ := I.base.there b o e hx
    exact free b o' (neC b o e hx) e1 (I.base.free b o e n hx)
  · obtain ⟨o', e1⟩ := I.base.there b o e hx
    exact there b o' (neC b o e hx) e1
  · obtain ⟨m1, e1⟩ := I.base.tbls b ps e
    obtain ⟨m2, e2⟩ := tbls b _ e1
    exact ⟨m1 ++ m2, by rw [e2, Array.append_assoc]⟩
  · obtain ⟨m, hn, hl⟩ := I.loc
    refine ⟨m, ns m hn, fun i x v e1 e2 e3 => ?_⟩
    obtain ⟨u, r, l⟩ := hl i x v e1 e2 e3
    refine ⟨u, r, ?_⟩
    rcases l with l | ⟨k, c, e, z⟩
    · exact .inl l
    · exact .inr ⟨k, c, e, cellK x c e _ z⟩
  · obtain ⟨v, z⟩ := I.cell x c e
    exact ⟨v, cellK x c e v z⟩
  · obtain ⟨m, ⟨o, _, _, ho, _⟩, _⟩ := I.loc
    exact free _ o (fun z => (hch _ z).2.1 rfl) ho I.free
  · obtain ⟨v, o, ho, hd⟩ := I.cell x c e
    exact free c o (fun z => (hch c z).2.2.1 x c e rfl) ho (I.freeC x c e)
  · obtain ⟨e, n, ne, nf, d⟩ := I.pin p hp
    have nch : p.1 ∉ ch := fun z => (hch p.1 z).2.2.2 p hp rfl
    exact ⟨keep p.1 p.2 ne nf nch e n, free p.1 p.2 nch e n, ne, nf, d⟩
theorem Inv.un {t' : Nat} (I : Inv X pins σ H s) (u : Un X.fs [] H H' s.heap h') (hok : HOk X.prog X.w H' h') : Inv X pins σ H' { s with heap := h', toks := t' } := by
  obtain ⟨m, ⟨o, es, ep, ho, r⟩, _⟩ := id I.loc
  obtain ⟨sl, hL⟩ := u.any ho I.free (by simp)
  exact I.step (g' := s.gens) (d' := s.drawn) (ch := []) (fun _ z => nomatch z) (fun b o _ hb _ e n => u.keep b o e n hb (by simp)) (fun b o _ hb _ e n => u.slot b o e n hb (by simp)) (fun b o _ e n => u.free b o e n (by simp)) (fun b o _ e => u.there b o e (by simp)) u.tups u.frzs u.tbls (fun m' hm => by
    obtain ⟨o', es', ep', ho', r'⟩ := hm
    rw [ho] at ho'; cases ho'
    exact ⟨_, es', ep', hL, r'⟩) hok I.bare
theorem Inv.call {g' : Array GenState} {t' : Nat} {d' : Drawn} {ch : List Addr} (I : Inv X pins σ H s) (u : Un (frs X.stack) ch H H' s.heap h') (hok : HOk X.prog X.w H' h') (hg : AllBare g')
    (hch : ∀ b ∈ ch, (b ∈ X.ex ∨ X.s₀.heap.objs.size ≤ b) ∧ b ≠ X.env.locals ∧ (∀ x c, X.env.cells.lookup x = some c → c ≠ b) ∧ ∀ p ∈ X.pn ++ pins, p.1 ≠ b) :
    Inv X pins σ H' { s with heap := h', gens := g', drawn := d', toks := t' } := by
  obtain ⟨m, ⟨o, es, ep, ho, r⟩, _⟩ := id I.loc
  obtain ⟨sl, hL⟩ := u.any ho I.free fun z => (hch _ z).2.1 rfl
  exact I.step (ch := ch) hch (fun b o hL hb hc e n => u.keep b o e n (fun z => (List.mem_cons.mp (I.stkSub b z)).elim hL hb) hc) (fun b o _ _ hc e n => u.any e n hc) (fun b o hc e n => u.free b o e n hc) (fun b o hc e => u.there b o e hc) u.tups u.frzs u.tbls (fun m' hm => by
    obtain ⟨o', es', ep', ho', r'⟩ := hm
    rw [ho] at ho'; cases ho'
    exact ⟨_, es', ep', hL, r'⟩) hok hg
theorem Inv.turned {t' : Nat} {it : Addr} (I : Inv X pins σ H s) (k : ∀ b o, b ≠ it → s.heap.get? b = some o → h'.get? b = some o) (hn : H it = none) (hL : it ≠ X.env.locals)
    (h1 : it ∈ X.ex ∨ X.s₀.heap.objs.size ≤ it) (h2 : ∀ x c, X.env.cells.lookup x = some c → c ≠ it) (h3 : ∀ p ∈ X.pn ++ pins, p.1 ≠ it) : Inv X pins σ H { s with heap := h', toks := t' } := by
  have nit : ∀ b u, H b = some u → b ≠ it := fun b u e z => by rw [z, hn] at e; cases e
  refine I.step (g' := s.gens) (d' := s.drawn) (ch := [it]) (fun b hb => ?_) (fun b o _ _ hc e _ => k b o (fun z => hc (by simp [z])) e) (fun b o _ _ hc e _ => ⟨o.slots, k b o (fun z => hc (by simp [z])) e⟩) (fun _ _ _ _ n => n)
    (fun b o hc e => ⟨o, k b o (fun z => hc (by simp [z])) e⟩) (fun _ _ e => e) (fun _ _ _ e => e) (fun b ps e => ⟨#[], by rw [e]; simp⟩) (fun m hm => ?_) (fun b u e => ?_) I.bare
  · have e : b = it := by simpa using hb
    subst e
    exact ⟨h1, hL, h2, h3⟩
  · obtain ⟨o, es, ep, ho, r⟩ := hm
    exact ⟨o, es, ep, k _ o (Ne.symm hL) ho, r⟩
  · refine (I.hok b u e).stay (fun c v hc q => k c v ?_ q) (fun _ q => q) fun _ _ q => q
    rcases hc with z | z
    · rw [z]; exact nit b u e
    · exact nit c _ z
theorem Inv.tok (I : Inv X pins σ H s) (t : Nat) : Inv X pins σ H { s with toks := t } := I.un (h' := s.heap) (t' := t) Un.refl I.hok
theorem Inv.kept {t' : Nat} (I : Inv X pins σ H s) (k : ∀ b u, s.heap.get? b = some u → h'.get? b = some u) : Inv X pins σ H { s with heap := h', toks := t' } := I.un (Un.kept k) (I.hok.kept k)
theorem Inv.laid {a : Addr} {o : HO} {t' : Nat} (I : Inv X pins σ H s) (k : ∀ b u, s.heap.get? b = some u → h'.get? b = some u) (hp : s.heap.objs.size ≤ a) (new : ObjOk X.prog X.w (upd H a o) h' a o) :
    Inv X pins σ (upd H a o) { s with heap := h', toks := t' } := I.un (Un.laid k hp (I.hok.fresh hp)) (I.hok.laid k hp new)
theorem Inv.write {x e : Addr} {o : HO} {t' : Nat} (I : Inv X pins σ H s) (mu : Mut (H x)) (he : e = x ∨ H e = some (.own x)) (k : ∀ b u, b ≠ e → s.heap.get? b = some u → h'.get? b = some u) (heo : ∃ u, h'.get? e = some u)
    (new : ObjOk X.prog X.w (upd H x o) h' x o) : Inv X pins σ (upd H x o) { s with heap := h', toks := t' } := I.un (Un.write mu he k heo) (I.hok.write mu he k heo new)
theorem Inv.pins_of {pins' : List (Addr × Obj)} (I : Inv X pins σ H s) (h : ∀ p ∈ pins', s.heap.get? p.1 = some p.2 ∧ H p.1 = none ∧ p.1 ≠ X.env.locals ∧ p.1 ∉ X.fs ∧ ∀ v, p.2.data ≠ .cell v) : Inv X pins' σ H s :=
  ⟨I.ok, I.os, I.bare, I.base, I.loc, I.cell, I.free, I.freeC, fun p hp => (List.mem_append.mp hp).elim (fun z => I.pin p (List.mem_append_left _ z)) (h p), I.hok, I.len⟩
theorem nodup_ix {N : List Str} (hN : N.Nodup) {i j : Nat} {x : Str} (a : N[i]? = some x) (b : N[j]? = some x) : i = j := by
  obtain ⟨h1, e1⟩ := List.getElem?_eq_some_iff.mp a
  obtain ⟨h2, e2⟩ := List.getElem?_eq_some_iff.mp b
  exact (List.getElem_inj hN).mp (e1.trans e2.symm)
theorem store_ok2 {M : Model} {A : Around} {E : Value → Shared → Prop} {i : Nat} {x : Str} {v : V} {u : Value} {Q : Unit → Shared → Prop} (I : Inv X pins σ H s) (hN : X.N.Nodup) (hi : X.N[i]? = some x) (hx : Loc X.env.scope x) (r : RelV v u)
    (h : ∀ s', Inv X pins (σ.set i (some v)) H s' → (∃ a, Heap.SameBut a s.heap s'.heap ∧ (a = X.env.locals ∨ X.env.cells.lookup x = some a)) → Q () s') (hf : X.fn x = true ∨ X.env.scope.names.lookup x = some .local := by first | exact .inl rfl | exact .inr rfl | assumption) : wpAny M A (storeName X.env x u) Q E s := by
  obtain ⟨m, hn, hl⟩ := id I.loc
  have hcls : (X.env.scope.kind == .class || (X.env.scope.kind == .module && X.env.locals != X.env.globals)) = false := by rw [I.ok.kind]; rfl
  have hiσ : i < σ.length := by rw [I.len]; exact (List.getElem?_eq_some_iff.mp hi).1
  have cne := I.cne
  have tracked : ∀ {a : Addr} {h' : Heap}, (∃ o, s.heap.get? a = some o ∧ H a = none) → Heap.SameBut a s.heap h' → HOk X.prog X.w H h' := fun {a h'} ha hs b ob e => by
    obtain ⟨_, _, hfree⟩ := ha
    refine (I.hok b ob e).stay (fun c w' hc q => (hs.2 c ?_).trans q) (fun _ q => q) fun _ _ q => q
    rintro rfl
    rcases hc with rfl | hc
    · rw [hfree] at e; cases e
    · rw [hfree] at hc; cases hc
  rcases hx with hk | hk
  · refine wpAny_storeName_local hk hn (fun h' hn' hs => ?_) hcls
    obtain ⟨oL, _, _, hoL, _⟩ := id hn
    refine h _ ⟨I.ok, I.os, I.bare, ⟨fun b o e n hb hx => ?_, fun b o e n hb hx => ?_, I.base.free, fun b o e hx => ?_, I.base.tups, I.base.frzs, I.base.tbls⟩, ⟨_, hn', fun j y v' e1 e2 e3 => ?_⟩, fun y c e => ?_, I.free, I.freeC, fun p hp => ?_, tracked ⟨oL, hoL, I.free⟩ hs, by simpa using I.len⟩ ⟨_, hs, .inl rfl⟩
    · exact (hs.2 b (Nat.ne_of_lt (Nat.lt_of_lt_of_le (Heap.lt_size e) I.ok.above))).trans (I.base.keep b o e n hb hx)
    · obtain ⟨sl, e1⟩ := I.base.slot b o e n hb hx
      exact ⟨sl, (hs.2 b (Nat.ne_of_lt (Nat.lt_of_lt_of_le (Heap.lt_size e) I.ok.above))).trans e1⟩
    · obtain ⟨o', e1⟩ := I.base.there b o e hx
      exact ⟨o', (hs.2 b (Nat.ne_of_lt (Nat.lt_of_lt_of_le (Heap.lt_size e) I.ok.above))).trans e1⟩
    · by_cases hj : j = i
      · subst hj
        rw [hi] at e1; cases e1
        rw [List.getElem?_set_self hiσ] at e2
        cases e2
        exact ⟨u, r, .inl ⟨hk, by simp⟩⟩
      · rw [List.getElem?_set_ne (Ne.symm hj)] at e2
        obtain ⟨u', r', q⟩ := hl j y v' e1 e2 e3
        refine ⟨u', r', ?_⟩
        rcases q with ⟨k, e⟩ | ⟨k, c, e, z⟩
        · refine .inl ⟨k, ?_⟩
          have : y ≠ x := fun e => hj (nodup_ix hN e1 (e ▸ hi))
          simp [this, e]
        · exact .inr ⟨k, c, e, z.sameBut hs (cne y c e)⟩
    · obtain ⟨w', z⟩ := I.cell y c e
      exact ⟨w', z.sameBut hs (cne y c e)⟩
    · obtain ⟨e, n, ne, nf, d⟩ := I.pin p hp
      exact ⟨(hs.2 p.1 ne).trans e, n, ne, nf, d⟩
  · have hfn : X.fn x = true := by
      rcases hf with z | z
      · exact z
      · rw [z] at hk; cases hk
    obtain ⟨c, hc⟩ := I.ok.has x (.inl hk)
    obtain ⟨w', z⟩ := I.cell x c hc
    refine wpAny_storeName_cell I.ok.kind hk hc z (fun h' hc' hs => ?_)
    obtain ⟨oc, hoc, hocd⟩ := id z
    refine h { s with heap := h' } ⟨I.ok, I.os, I.bare, ⟨fun b o e n hb hx => ?_, fun b o e n hb hx => ?_, I.base.free, fun b o e hx => ?_, I.base.tups, I.base.frzs, I.base.tbls⟩, ⟨m, hn.sameBut hs (Ne.symm (cne x c hc)), fun j y v' e1 e2 e3 => ?_⟩, fun y c' e => ?_, I.free, I.freeC, fun p hp => ?_, tracked ⟨oc, hoc, I.freeC x c hc⟩ hs, by simpa using I.len⟩ ⟨c, hs, .inr hc⟩
    · exact (hs.2 b (Nat.ne_of_lt (Nat.lt_of_lt_of_le (Heap.lt_size e) (I.ok.cab x c hfn hc)))).trans (I.base.keep b o e n hb hx)
    · obtain ⟨sl, e1⟩ := I.base.slot b o e n hb hx
      exact ⟨sl, (hs.2 b (Nat.ne_of_lt (Nat.lt_of_lt_of_le (Heap.lt_size e) (I.ok.cab x c hfn hc)))).trans e1⟩
    · obtain ⟨o', e1⟩ := I.base.there b o e hx
      exact ⟨o', (hs.2 b (Nat.ne_of_lt (Nat.lt_of_lt_of_le (Heap.lt_size e) (I.ok.cab x c hfn hc)))).trans e1⟩
    · by_cases hj : j = i
      · subst hj
        rw [hi] at e1; cases e1
        rw [List.getElem?_set_self hiσ] at e2
        cases e2
        exact ⟨u, r, .inr ⟨.inl hk, c, hc, hc'⟩⟩
      · rw [List.getElem?_set_ne (Ne.symm hj)] at e2
        obtain ⟨u', r', q⟩ := hl j y v' e1 e2 e3
        refine ⟨u', r', ?_⟩
        rcases q with q | ⟨k, c', e, z'⟩
        · exact .inl q
        · refine .inr ⟨k, c', e, z'.sameBut hs ?_⟩
          rintro rfl
          exact hj (nodup_ix hN e1 (I.ok.inj _ _ _ e hc ▸ hi))
    · by_cases hcc : c' = c
      · subst hcc; exact ⟨_, hc'⟩
      · obtain ⟨w2, z2⟩ := I.cell y c' e
        exact ⟨w2, z2.sameBut hs hcc⟩
    · obtain ⟨e, n, ne, nf, d⟩ := I.pin p hp
      refine ⟨(hs.2 p.1 ?_).trans e, n, ne, nf, d⟩
      intro q
      rw [q, hoc] at e
      have q' : oc = p.2 := Option.some.inj e
      exact d w' (by rw [← q']; exact hocd)
theorem store_ok {M : Model} {A : Around} {E : Value → Shared → Prop} {i : Nat} {x : Str} {v : V} {u : Value} {Q : Unit → Shared → Prop} (I : Inv X pins σ H s) (hN : X.N.Nodup) (hi : X.N[i]? = some x) (hx : Loc X.env.scope x) (r : RelV v u)
    (h : ∀ s', Inv X pins (σ.set i (some v)) H s' → Q () s') (hf : X.fn x = true ∨ X.env.scope.names.lookup x = some .local := by first | exact .inl rfl | exact .inr rfl | assumption) : wpAny M A (storeName X.env x u) Q E s :=
  store_ok2 I hN hi hx r (fun s' I' _ => h s' I') hf
theorem Inv.call' {s' : Shared} {ch : List Addr} (I : Inv X pins σ H s) (ho : s'.os = s.os) (u : Un (frs X.stack) ch H H' s.heap s'.heap) (hok : HOk X.prog X.w H' s'.heap) (hg : AllBare s'.gens)
    (hch : ∀ b ∈ ch, (b ∈ X.ex ∨ X.s₀.heap.objs.size ≤ b) ∧ b ≠ X.env.locals ∧ (∀ x c, X.env.cells.lookup x = some c → c ≠ b) ∧ ∀ p ∈ X.pn ++ pins, p.1 ≠ b) : Inv X pins σ H' s' := by
  obtain ⟨h', g', d', t', o'⟩ := s'
  have e : o' = s.os := ho
  subst e
  exact I.call (g' := g') (t' := t') (d' := d') u hok hg hch
end
abbrev XK := Value → Option Addr → Hp → Prop
abbrev St := List (Option V)
abbrev VK := V → Hp → Prop
abbrev TE := St → Hp → VK → Prop
abbrev TT := St → Hp → (Bool → Hp → Prop) → Prop
abbrev TA := St → Hp → (List V → Hp → Prop) → Prop
structure Ends where
  nx : St → Hp → Prop
  rt : VK
  bk : St → Hp → Prop := fun _ _ => False
  ct : St → Hp → Prop := fun _ _ => False
abbrev TS := Ends → St → Hp → Prop
def EP (X : Cx) (pins : List (Addr × Obj)) (σ : St) (Q : VK) (u : Value) (s' : Shared) : Prop := ∃ v H', Inv X pins σ H' s' ∧ RelV v u ∧ Q v H'
def TP (X : Cx) (pins : List (Addr × Obj)) (σ : St) (Q : Bool → Hp → Prop) (b : Bool) (s' : Shared) : Prop := ∃ H', Inv X pins σ H' s' ∧ Q b H'
def AP (X : Cx) (pins : List (Addr × Obj)) (σ : St) (Q : List V → Hp → Prop) (us : List Value) (s' : Shared) : Prop := ∃ vs H', Inv X pins σ H' s' ∧ Vals vs us ∧ Q vs H'
def SP (X : Cx) (pins : List (Addr × Obj)) (D : Ends) (f : Flow) (s' : Shared) : Prop :=
  match f with
  | .next => ∃ σ' H', Inv X pins σ' H' s' ∧ D.nx σ' H'
  | .brk => ∃ σ' H', Inv X pins σ' H' s' ∧ D.bk σ' H'
  | .cont => ∃ σ' H', Inv X pins σ' H' s' ∧ D.ct σ' H'
  | .ret u => ∃ v σ' H', Inv X pins σ' H' s' ∧ RelV v u ∧ D.rt v H'
def PE (X : Cx) (e : Expr) (t : TE) : Prop :=
  ∀ (pins : List (Addr × Obj)) (s : Shared) (σ : St) (H : Hp) (Q : VK), Inv X pins σ H s → t σ H Q → wpAny (model X.prog X.w) X.A (eval e X.env) (EP X pins σ Q) X.xe s
def PT (X : Cx) (e : Expr) (t : TT) : Prop :=
  ∀ (pins : List (Addr × Obj)) (s : Shared) (σ : St) (H : Hp) (Q : Bool → Hp → Prop), Inv X pins σ H s → t σ H Q → wpAny (model X.prog X.w) X.A (isTrue e X.env (eval e X.env)) (TP X pins σ Q) X.xe s
def PW (X : Cx) (e : Expr) (t : TT) : Prop :=
  ∀ (whole : Sem Value) (pins : List (Addr × Obj)) (s : Shared) (σ : St) (H : Hp) (Q : Bool → Hp → Prop), Inv X pins σ H s → t σ H Q → wpAny (model X.prog X.w) X.A (isTrue e X.env whole) (TP X pins σ Q) X.xe s
theorem PW.pt {X : Cx} {e : Expr} {t : TT} (h : PW X e t) : PT X e t := h _
def PA (X : Cx) (es : List Expr) (t : TA) : Prop :=
  ∀ (pos : Pos) (pins : List (Addr × Obj)) (s : Shared) (σ : St) (H : Hp) (Q : List V → Hp → Prop), Inv X pins σ H s → t σ H Q → wpAny (model X.prog X.w) X.A (spliced (backTo pos (starEach es X.env))) (AP X pins σ Q) X.xe s
def PS (X : Cx) (st : Stmt) (t : TS) : Prop :=
  ∀ (pins : List (Addr × Obj)) (s : Shared) (σ : St) (H : Hp) (D : Ends), Inv X pins σ H s → t D σ H → wpAny (model X.prog X.w) X.A (exec st X.env) (SP X pins D) X.xe s
def PSs (X : Cx) (st : List Stmt) (t : TS) : Prop :=
  ∀ (pins : List (Addr × Obj)) (s : Shared) (σ : St) (H : Hp) (D : Ends), Inv X pins σ H s → t D σ H → wpAny (model X.prog X.w) X.A (execs st X.env) (SP X pins D) X.xe s
theorem thn {α : Type} {t : Sem α} {Q Q' : α → Shared → Prop} {M : Model} {A : Around} {E : Value → Shared → Prop} {s : Shared} (h : wpAny M A t Q E s) (hQ : ∀ a s, Q a s → Q' a s) : wpAny M A t Q' E s := wpAny_mono h hQ fun _ _ x => x
end L2
namespace L2
open PySem PySem.Spec PyProof.Rows
section
variable {X : Cx}
def tVar (i : Nat) : TE := fun σ H Q => ∃ v, σ[i]? = some (some v) ∧ Q v H
def tC (v : V) : TE := fun _ H Q => Q v H
theorem pe_var {i : Nat} {x : Str} {pos : Pos} (hN : X.N[i]? = some x) (hv : Vis X.env.scope x) (hd : (x == ("__debug__" : Str)) = false := by decide) (hcd : (x == ("__classdict__" : Str)) = false := by decide) : PE X (.Name x pos) (tVar i) := by
  intro pins s σ H Q I h
  obtain ⟨v, e, h⟩ := h
  obtain ⟨m, hn, hl⟩ := I.loc
  obtain ⟨u, r, l⟩ := hl i x v hN e hv
  have fin : EP X pins σ Q u s := ⟨v, H, I, r, h⟩
  rcases l with ⟨hk, hm⟩ | ⟨hk, c, hc, hcell⟩
  · exact wpAny_Name (wpAny_loadName_local I.ok.kind hk hn hm fin) hd
  · rcases hk with hk | hk
    · exact wpAny_Name (wpAny_loadName_cell I.ok.kind hk hc hcell fin) hd
    · exact wpAny_Name (wpAny_loadName_free I.ok.kind hk hc hcell fin hcd) hd
theorem pe_int {i j pos} : PE X (.Constant (.int i) j pos) (tC (.int i)) := fun _ _ _ H _ I h => wpAny_Constant_int ⟨.int i, H, I.tok _, ⟨_, rfl⟩, h⟩
theorem pe_bl {b j pos} : PE X (.Constant (.bool b) j pos) (tC (.bl b)) := fun _ _ _ H _ I h => Constant_bool ⟨.bl b, H, I, rfl, h⟩
def Gl (X : Cx) (x : Str) : Prop := X.env.kindOf x = some .globalImplicit
theorem ld_glob {E : Value → Shared → Prop} {pins : List (Addr × Obj)} {s : Shared} {σ : St} {H : Hp} {x : Str} {u : Value} {pos : Pos} {Q : Value → Shared → Prop} (I : Inv X pins σ H s) (hg : Gl X x) (hm : X.mg x = some u) (h : Q u s)
    (hd : (x == ("__debug__" : Str)) = false := by decide) : wpAny (model X.prog X.w) X.A (eval (.Name x pos) X.env) Q E s :=
  Calls.Name_function_global I.ok.kind hg (Calls.loadGlobal_global (by rw [I.ok.glob]; exact I.mod.glob.keeps I.bk) hm h) hd
theorem ld_blt {E : Value → Shared → Prop} {pins : List (Addr × Obj)} {s : Shared} {σ : St} {H : Hp} {x : Str} {u : Value} {pos : Pos} {Q : Value → Shared → Prop} (I : Inv X pins σ H s) (hg : Gl X x) (hm : X.mg x = none) (hv : bootBuiltins x = some u) (h : Q u s)
    (hn : x ≠ "__name__" := by decide) (hd : (x == ("__debug__" : Str)) = false := by decide) : wpAny (model X.prog X.w) X.A (eval (.Name x pos) X.env) Q E s := by
  obtain ⟨mb, h1, h2⟩ := I.mod.blt
  exact Calls.Name_function_global I.ok.kind hg (Calls.loadGlobal_builtin (by rw [I.ok.glob]; exact I.mod.glob.keeps I.bk) hm (by rw [I.ok.blt]; exact h1.keeps I.bk) ((h2 x hn).trans hv) h) hd
theorem pe_glob {x : Str} {v : V} {u : Value} {pos : Pos} (hg : Gl X x) (hm : X.mg x = some u) (r : RelV v u) (hd : (x == ("__debug__" : Str)) = false := by decide) : PE X (.Name x pos) (tC v) :=
  fun _ _ _ H _ I h => ld_glob I hg hm ⟨v, H, I, r, h⟩ hd
theorem pe_bltn {x : Str} {v : V} {u : Value} {pos : Pos} (hg : Gl X x) (hm : X.mg x = none) (hv : bootBuiltins x = some u) (r : RelV v u) (hn : x ≠ "__name__" := by decide) (hd : (x == ("__debug__" : Str)) = false := by decide) : PE X (.Name x pos) (tC v) :=
  fun _ _ _ H _ I h => ld_blt I hg hm hv ⟨v, H, I, r, h⟩ hn hd
variable {a b : Expr} {ta tb : TE} {pos : Pos}
theorem nobehind (b : Expr) {op : CmpOp} (h : op ≠ .In) (h2 : op ≠ .NotIn) : behindInMarks op b = false := by
  have e1 : (op == CmpOp.In) = false := by cases op <;> first | rfl | exact absurd rfl h
  have e2 : (op == CmpOp.NotIn) = false := by cases op <;> first | rfl | exact absurd rfl h2
  cases b <;> simp [behindInMarks, e1, e2]
def tB (t : TE) : TT := fun σ H Q => t σ H fun x H1 => ∃ c, x = .bl c ∧ Q c H1
theorem pt_val {e : Expr} {t : TE} (h : PE X e t) (he : ∀ whole, isTrue e X.env whole = (do let v ← whole; standAt e.pos; holding [v] (truthy v)) := by intro _; rfl) : PT X e (tB t) := by
  intro pins s σ H Q I hw
  refine isTrue_plain (thn (h pins s σ H _ I hw) fun v s1 ⟨x, H1, I1, r1, q1⟩ => ?_) (he _)
  obtain ⟨d, rfl, q⟩ := q1
  cases r1
  exact wpAny_truthy_bool ⟨H1, I1, q⟩
variable {tA tB' : TT} {rest : List Expr}
def tAnd (t u : TT) : TT := fun σ H Q => t σ H fun c H1 => if c = true then u σ H1 Q else Q false H1
def tOr (t u : TT) : TT := fun σ H Q => t σ H fun c H1 => if c = true then Q true H1 else u σ H1 Q
def tNot (t : TT) : TT := fun σ H Q => t σ H fun c H1 => Q (!c) H1
theorem pw_and1 (ha : PT X a tA) : PW X (.BoolOp .And [a] pos) tA := by
  intro wh pins s σ H Q I h
  refine isTrue_and (thn (ha pins s σ H Q I h) fun c s1 e => ?_)
  cases c with
  | true => exact isTrue_and_nil e
  | false => exact e
theorem pw_or1 (ha : PT X a tA) : PW X (.BoolOp .Or [a] pos) tA := by
  intro wh pins s σ H Q I h
  refine isTrue_or (thn (ha pins s σ H Q I h) fun c s1 e => ?_)
  cases c with
  | false => exact isTrue_or_nil e
  | true => exact e
theorem pw_and (ha : PT X a tA) (hb : PW X (.BoolOp .And (b :: rest) pos) tB') : PW X (.BoolOp .And (a :: b :: rest) pos) (tAnd tA tB') := by
  intro wh pins s σ H Q I h
  refine isTrue_and (thn (ha pins s σ H _ I h) fun c s1 ⟨H1, I1, q1⟩ => ?_)
  cases c with
  | true => exact hb wh pins s1 σ H1 Q I1 q1
  | false => exact ⟨H1, I1, q1⟩
theorem pw_or (ha : PT X a tA) (hb : PW X (.BoolOp .Or (b :: rest) pos) tB') : PW X (.BoolOp .Or (a :: b :: rest) pos) (tOr tA tB') := by
  intro wh pins s σ H Q I h
  refine isTrue_or (thn (ha pins s σ H _ I h) fun c s1 ⟨H1, I1, q1⟩ => ?_)
  cases c with
  | true => exact ⟨H1, I1, q1⟩
  | false => exact hb wh pins s1 σ H1 Q I1 q1
theorem pt_not (ha : PT X a tA) : PT X (.UnaryOp .Not a pos) (tNot tA) := by
  intro pins s σ H Q I h
  exact isTrue_not (ha pins s σ H (fun c H1 => Q (!c) H1) I h)
def tAndV (ta tb : TE) : TE := fun σ H Q => ta σ H fun x H1 => ∃ c, x = .bl c ∧ if c = true then tb σ H1 Q else Q (.bl false) H1
theorem pe_one {op} {t : TE} (h : PE X a t) : PE X (.BoolOp op [a] pos) t := fun pins s σ H Q I hw => BoolOp_one (h pins s σ H Q I hw)
theorem pe_and (ha : PE X a ta) (hb : PE X (.BoolOp .And (b :: rest) pos) tb) : PE X (.BoolOp .And (a :: b :: rest) pos) (tAndV ta tb) := by
  intro pins s σ H Q I h
  refine BoolOp_and (thn (ha pins s σ H _ I h) fun v s1 ⟨x, H1, I1, r1, q1⟩ => ?_)
  obtain ⟨c, rfl, q1⟩ := q1
  cases r1
  refine wpAny_truthy_bool ?_
  cases c with
  | true => exact hb pins s1 σ H1 Q I1 q1
  | false => exact ⟨.bl false, H1, I1, rfl, q1⟩
end
end L2
namespace L2
open PySem PySem.Spec PyProof.Rows
def SqL (K : PySem.W.Frag) (H : Hp) (a : Addr) (xs : List V) : Prop :=
  Rd H a (.lst xs) ∨
    ∃ (o : Obj) (its : Array Value) (n : Nat), K.lookup a = some o ∧ o.cls = .type "list" ∧ o.dict = none ∧ o.data = .seq its n ∧ its.size ≤ sizeLine ∧ Vals xs its.toList
def SqT (K : PySem.W.Frag) (H : Hp) (a : Addr) (xs : List V) : Prop :=
  Rd H a (.tup xs) ∨
    ∃ (o : Obj) (its : Array Value) (n : Nat), K.lookup a = some o ∧ o.cls = .type "tuple" ∧ o.data = .seq its n ∧ its.size ≤ sizeLine ∧ Vals xs its.toList
def absV : Value → Option V
  | .none => some .non
  | .bool b => some (.bl b)
  | .int i _ => some (.int i)
  | .str x _ => some (.str x)
  | .bytes b _ => some (.byt b)
  | .float b _ => some (.flt b)
  | .ref a => some (.ref a)
  | .type n => some (.ty n)
  | _ => none
theorem RelV.abs {x : V} {u : Value} (r : RelV x u) : absV u = some x := by
  cases x with
  | non => cases r; rfl
  | bl _ => cases r; rfl
  | int _ => obtain ⟨t, rfl⟩ := r; rfl
  | str _ => obtain ⟨t, rfl⟩ := r; rfl
  | byt _ => obtain ⟨t, rfl⟩ := r; rfl
  | flt _ => obtain ⟨t, rfl⟩ := r; rfl
  | ref _ => cases r; rfl
  | ty _ => cases r; rfl
theorem RelV.inj {x y : V} {u : Value} (r : RelV x u) (q : RelV y u) : x = y := Option.some.inj (r.abs.symm.trans q.abs)
theorem Vals.inj : ∀ {xs ys : List V} {us : List Value}, Vals xs us → Vals ys us → xs = ys
  | _, _, _, .nil, .nil => rfl
  | _, _, _, .cons r t, .cons r' t' => by rw [r.inj r', Vals.inj t t']
section
variable {X : Cx} {pins : List (Addr × Obj)} {σ : St} {H : Hp} {s : Shared} {a : Addr} {xs ys : List V}
theorem SqL.of {K : PySem.W.Frag} (h : H a = some (.lst xs)) : SqL K H a xs := .inl (.inl h)
theorem SqT.of {K : PySem.W.Frag} (h : H a = some (.tup xs)) : SqT K H a xs := .inl (.inl h)
theorem Inv.list (I : Inv X pins σ H s) (h : SqL X.K H a xs) : ∃ its : List Value, Vals xs its ∧ PlainL s.heap a its.toArray ∧ xs.length ≤ sizeLine := by
  rcases h with h | ⟨o, its, n, hk, hc, hd, hs, hz, r⟩
  · obtain ⟨z, its, n, r, e⟩ := h.ok I.hok
    exact ⟨its, r, ⟨_, n, e, rfl, rfl, rfl⟩, z⟩
  · refine ⟨its.toList, r, ⟨o, n, I.kIn a o hk, hc, hd, by simpa using hs⟩, ?_⟩
    have e := r.length
    simp only [Array.length_toList] at e
    omega
theorem Inv.tuple (I : Inv X pins σ H s) (h : SqT X.K H a xs) : ∃ its : List Value, Vals xs its ∧ IsTup s.heap a its.toArray ∧ xs.length ≤ sizeLine := by
  rcases h with h | ⟨o, its, n, hk, hc, hs, hz, r⟩
  · obtain ⟨z, its, r, p⟩ := h.ok I.hok
    exact ⟨its, r, p, z⟩
  · refine ⟨its.toList, r, ⟨o, I.kIn a o hk, hc, n, by simpa using hs⟩, ?_⟩
    have e := r.length
    simp only [Array.length_toList] at e
    omega
theorem Inv.list_inj (I : Inv X pins σ H s) (h : SqL X.K H a xs) (h' : SqL X.K H a ys) : xs = ys := by
  obtain ⟨its, r, ⟨o, n, e, _, _, d⟩, _⟩ := I.list h
  obtain ⟨its', r', ⟨o', n', e', _, _, d'⟩, _⟩ := I.list h'
  rw [e] at e'; cases e'
  rw [d] at d'
  injection d' with d1 _
  have : its = its' := by simpa using congrArg Array.toList d1
  subst this
  exact r.inj r'
theorem Inv.tuple_inj (I : Inv X pins σ H s) (h : SqT X.K H a xs) (h' : SqT X.K H a ys) : xs = ys := by
  obtain ⟨its, r, ⟨o, e, _, n, d⟩, _⟩ := I.tuple h
  obtain ⟨its', r', ⟨o', e', _, n', d'⟩, _⟩ := I.tuple h'
  rw [e] at e'; cases e'
  rw [d] at d'
  injection d' with d1 _
  have : its = its' := by simpa using congrArg Array.toList d1
  subst this
  exact r.inj r'
end
abbrev Cx.wish (X : Cx) (E : Value → Shared → Prop) : Cx := { X with xe := E }
abbrev Cx.nox (X : Cx) : Cx := X.wish fun _ _ => False
theorem Cx.Ok.wish {X : Cx} (ok : X.Ok) (E : Value → Shared → Prop) : (X.wish E).Ok :=
  ⟨ok.mod, ok.kind, ok.glob, ok.blt, ok.above, ok.inj, ok.has, ok.cab, ok.hd, ok.frames, ok.stk, ok.exf, ok.bs, ok.bsz, ok.noex, ok.exfs, ok.funs, ok.frf⟩
theorem Cx.Ok.unwish {X : Cx} {E : Value → Shared → Prop} (ok : (X.wish E).Ok) : X.Ok :=
  ⟨ok.mod, ok.kind, ok.glob, ok.blt, ok.above, ok.inj, ok.has, ok.cab, ok.hd, ok.frames, ok.stk, ok.exf, ok.bs, ok.bsz, ok.noex, ok.exfs, ok.funs, ok.frf⟩
section
variable {X : Cx} {pins : List (Addr × Obj)} {σ : St} {H : Hp} {s : Shared} {E : Value → Shared → Prop}
theorem Inv.wish (I : Inv X pins σ H s) (E : Value → Shared → Prop) : Inv (X.wish E) pins σ H s := ⟨I.ok.wish E, I.os, I.bare, I.base, I.loc, I.cell, I.free, I.freeC, I.pin, I.hok, I.len⟩
theorem Inv.unwish (I : Inv (X.wish E) pins σ H s) : Inv X pins σ H s := ⟨I.ok.unwish, I.os, I.bare, I.base, I.loc, I.cell, I.free, I.freeC, I.pin, I.hok, I.len⟩
theorem SP.unwish {D : Ends} {f : Flow} {s' : Shared} (h : SP (X.wish E) pins D f s') : SP X pins D f s' := by
  cases f with
  | next => obtain ⟨σ', H', I, q⟩ := h; exact ⟨σ', H', I.unwish, q⟩
  | brk => obtain ⟨σ', H', I, q⟩ := h; exact ⟨σ', H', I.unwish, q⟩
  | cont => obtain ⟨σ', H', I, q⟩ := h; exact ⟨σ', H', I.unwish, q⟩
  | ret u => obtain ⟨v, σ', H', I, r, q⟩ := h; exact ⟨v, σ', H', I.unwish, r, q⟩
theorem PSs.nox {st : List Stmt} {t : TS} (h : PSs X.nox st t) : PSs X st t := fun pins s σ H D I hw =>
  wpAny_mono (h pins s σ H D (I.wish _) hw) (fun _ _ q => q.unwish) fun _ _ z => False.elim z
end
section
variable {X : Cx} {st : Stmt} {rest : List Stmt} {t u : TS} {e : Expr} {te : TE} {pos : Pos}
def tNext : TS := fun D σ H => D.nx σ H
def tSeq (t u : TS) : TS := fun D σ H => t { D with nx := u D } σ H
theorem pss_nil : PSs X [] tNext := fun _ _ σ H _ I h => wpAny_execs_nil ⟨σ, H, I, h⟩
theorem pss_cons (h1 : PS X st t) (h2 : PSs X rest u) : PSs X (st :: rest) (tSeq t u) := by
  intro pins s σ H D I h
  refine wpAny_execs_cons (thn (h1 pins s σ H { D with nx := u D } I h) fun f s1 q => ?_)
  cases f with
  | next =>
    obtain ⟨σ', H', I', q⟩ := q
    exact h2 pins s1 σ' H' D I' q
  | ret v => exact q
  | brk => exact q
  | cont => exact q
theorem pss_one (h1 : PS X st t) : PSs X [st] t := by
  intro pins s σ H D I h
  refine wpAny_execs_cons (thn (h1 pins s σ H D I h) fun f s1 q => ?_)
  cases f with
  | next => exact wpAny_execs_nil q
  | ret v => exact q
  | brk => exact q
  | cont => exact q
theorem Inv.quiet {pins : List (Addr × Obj)} {σ : St} {H : Hp} {s : Shared} (I : Inv X pins σ H s) : interactive X.env = false := by simp [interactive, I.ok.kind]
def tDrop (te : TE) : TS := fun D σ H => te σ H fun _ H1 => D.nx σ H1
theorem ps_expr (he : PE X e te) (hs : swapsWith e none pos.line X.env = pure false := by rfl) : PS X (.Expr e pos) (tDrop te) := by
  intro pins s σ H D I h
  exact wpAny_Expr_any (thn (he pins s σ H _ I h) fun v s1 ⟨x, H1, I1, r1, q1⟩ => ⟨σ, H1, I1, q1⟩) I.quiet hs
def tRet (te : TE) : TS := fun D σ H => te σ H D.rt
theorem ps_ret (he : PE X e te) : PS X (.Return (some e) pos) (tRet te) := by
  intro pins s σ H D I h
  exact wpAny_Return_some (thn (he pins s σ H _ I h) fun v s1 ⟨x, H1, I1, r1, q1⟩ => ⟨x, σ, H1, I1, r1, q1⟩)
def tIfS (c : TT) (t u : TS) : TS := fun D σ H => c σ H fun b H1 => if b = true then t D σ H1 else u D σ H1
theorem ps_if {c : Expr} {a b : List Stmt} {tc : TT} (hc : PT X c tc) (ha : PSs X a t) (hb : PSs X b u) : PS X (.If c a b pos) (tIfS tc t u) := by
  intro pins s σ H D I h
  refine wpAny_If (thn (hc pins s σ H _ I h) fun d s1 ⟨H1, I1, q1⟩ => ?_)
  cases d with
  | true => exact ha pins s1 σ H1 D I1 q1
  | false => exact hb pins s1 σ H1 D I1 q1
end
abbrev TG := V → St → Hp → (St → Hp → Prop) → Prop
abbrev TGs := List V → St → Hp → (St → Hp → Prop) → Prop
def PG (X : Cx) (target : Expr) (t : TG) : Prop :=
  ∀ (pins : List (Addr × Obj)) (s : Shared) (σ : St) (H : Hp) (v : V) (u : Value) (Q : St → Hp → Prop), Inv X pins σ H s → RelV v u → t v σ H Q →
    wpAny (model X.prog X.w) X.A (assign target X.env u) (fun _ s' => ∃ σ' H', Inv X pins σ' H' s' ∧ Q σ' H') X.xe s
def PGs (X : Cx) (ts : List Expr) (t : TGs) : Prop :=
  ∀ (pins : List (Addr × Obj)) (s : Shared) (σ : St) (H : Hp) (vs : List V) (us : List Value) (Q : St → Hp → Prop), Inv X pins σ H s → Vals vs us → t vs σ H Q →
    wpAny (model X.prog X.w) X.A (assignInOrder ((assignEach ts X.env).map (·.2)) us) (fun _ s' => ∃ σ' H', Inv X pins σ' H' s' ∧ Q σ' H') X.xe s
abbrev TSet := V → V → V → Hp → (Hp → Prop) → Prop
def PSet (X : Cx) (t : TSet) : Prop :=
  ∀ (pins : List (Addr × Obj)) (s : Shared) (σ : St) (H : Hp) (o i v : V) (ov iv u : Value) (Q : Hp → Prop), Inv X pins σ H s → RelV o ov → RelV i iv → RelV v u → t o i v H Q →
    wpAny (model X.prog X.w) X.A (setItem ov iv u) (fun _ s' => ∃ H', Inv X pins σ H' s' ∧ Q H') X.xe s
section
variable {X : Cx} {pos : Pos}
def gName (i : Nat) : TG := fun v σ H Q => Q (σ.set i (some v)) H
theorem pg_name {i : Nat} {x : Str} (hN : X.N.Nodup) (hi : X.N[i]? = some x) (hx : Loc X.env.scope x) (hf : X.fn x = true ∨ X.env.scope.names.lookup x = some .local := by first | exact .inl rfl | exact .inr rfl | assumption) : PG X (.Name x pos) (gName i) := by
  intro pins s σ H v u Q I r h
  exact wpAny_assign_Name (store_ok I hN hi hx r (fun s' I' => ⟨_, H, I', h⟩) hf)
def gNil : TGs := fun vs σ H Q => vs = [] ∧ Q σ H
def gCons (t : TG) (u : TGs) : TGs := fun vs σ H Q => ∃ v r, vs = v :: r ∧ t v σ H fun σ' H' => u r σ' H' Q
theorem pgs_nil : PGs X [] gNil := by
  intro pins s σ H vs us Q I r h
  obtain ⟨e, h⟩ := h
  subst e
  cases r
  exact assignInOrder_nil ⟨σ, H, I, h⟩
theorem pgs_cons {e : Expr} {es : List Expr} {t : TG} {u : TGs} (h1 : PG X e t) (h2 : PGs X es u)
    (hs : (assignEach (e :: es) X.env).map (·.2) = assign e X.env :: (assignEach es X.env).map (·.2) := by rfl) : PGs X (e :: es) (gCons t u) := by
  intro pins s σ H vs us Q I r h
  obtain ⟨v, vr, e1, h⟩ := h
  subst e1
  cases r with
  | cons r rr =>
    rw [hs]
    refine assignInOrder_cons (thn (h1 pins s σ H _ _ _ I r h) fun _ s1 ⟨σ1, H1, I1, q1⟩ => ?_)
    exact h2 pins s1 σ1 H1 _ _ Q I1 rr q1
def gTup (K : PySem.W.Frag) (n : Nat) (t : TGs) : TG := fun v σ H Q => ∃ a xs, v = .ref a ∧ SqT K H a xs ∧ xs.length = n ∧ t xs σ H Q
theorem pg_tup {es : List Expr} {k : Nat} {t : TGs} {n : Nat} (hc : X.calm = true) (h : PGs X es t)
    (hn : (assignEach es X.env).length = n := by rfl) (hst : (assignEach es X.env).findIdx? (·.1) = none := by rfl) : PG X (.Tuple es k pos) (gTup X.K n t) := by
  intro pins s σ H v u Q I r hw
  obtain ⟨a, xs, e1, hq, hl, hw⟩ := hw
  subst e1
  cases r
  obtain ⟨its, rv, ht, hz⟩ := I.tuple hq
  refine assign_Tuple_tuple (I.ok.hd hc) ht (by simp [hn, ← hl, rv.length]) hst fun h' hx => ?_
  have I1 : Inv X pins σ H { s with heap := h' } := I.kept (t' := s.toks) fun b o e => hx b o (Nat.ne_of_lt (Heap.lt_size e)) e
  exact h pins _ σ H xs _ Q I1 (by simpa using rv) hw
def gSub (to ti : TE) (t : TSet) : TG := fun v σ H Q => to σ H fun o H1 => ti σ H1 fun i H2 => t o i v H2 fun H3 => Q σ H3
theorem pg_sub {o i : Expr} {to ti : TE} {t : TSet} (ho : PE X o to) (hi : PE X i ti) (hs : PSet X t)
    (ha : ∀ v, assign (.Subscript o i pos) X.env v = (do
      let ov ← holding [v] (eval o X.env)
      let iv ← holding [v, ov] (eval i X.env)
      standAt pos
      holding [v, ov, iv] (setItem ov iv v)
      release [v, ov, iv] []) := by intro _; rfl) : PG X (.Subscript o i pos) (gSub to ti t) := by
  intro pins s σ H v u Q I r h
  rw [ha]
  refine wpAny_bind (wpAny_holding (thn (ho pins s σ H _ I h) fun ov s1 ⟨x, H1, I1, r1, q1⟩ => ?_))
  refine wpAny_bind (wpAny_holding (thn (hi pins s1 σ H1 _ I1 q1) fun iv s2 ⟨y, H2, I2, r2, q2⟩ => ?_))
  refine wpAny_bind (wpAny_standAt (wpAny_bind (wpAny_holding (thn (hs pins s2 σ H2 x y v ov iv u _ I2 r1 r2 r q2) fun _ s3 ⟨H3, I3, q3⟩ => ?_))))
  exact wpAny_release ⟨σ, H3, I3, q3⟩
def tAsg (te : TE) (g : TG) : TS := fun D σ H => te σ H fun x H1 => g x σ H1 D.nx
theorem ps_asg {tg e : Expr} {te : TE} {g : TG} (he : PE X e te) (hg : PG X tg g) (hs : swapsWithSole [tg] e pos.line X.env = pure false := by rfl) (hw : swappedStores [tg] e X.env = pure none := by rfl)
    (h1 : (assignEach [tg] X.env).map (·.2) = [assign tg X.env] := by rfl) : PS X (.Assign [tg] e pos) (tAsg te g) := by
  intro pins s σ H D I h
  refine wpAny_Assign_stores (thn (he pins s σ H _ I h) fun v s1 ⟨x, H1, I1, r1, q1⟩ => ?_) hs hw
  rw [h1]
  exact thn (hg pins s1 σ H1 x v _ I1 r1 q1) fun _ s2 q => q
theorem ps_set {i : Nat} {x : Str} {e : Expr} {te : TE} {pos' : Pos} (hN : X.N.Nodup) (hi : X.N[i]? = some x) (hx : Loc X.env.scope x) (he : PE X e te) (hs : swapsWith e (some (.Name x pos')) pos.line X.env = pure false := by rfl) (hf : X.fn x = true ∨ X.env.scope.names.lookup x = some .local := by first | exact .inl rfl | exact .inr rfl | assumption) :
    PS X (.Assign [.Name x pos'] e pos) (tAsg te (gName i)) := by
  intro pins s σ H D I h
  refine wpAny_Assign_Name (thn (he pins s σ H _ I h) fun v s1 ⟨y, H1, I1, r1, q1⟩ => ?_) hs
  exact store_ok I1 hN hi hx r1 (fun s2 I2 => ⟨_, H1, I2, q1⟩) hf
end
structure It where
  go : Nat → Hp → Prop
  yld : Nat → Hp → V → Hp → Prop
  stop : Nat → Hp → Prop
def FpOk (X : Cx) (pins : List (Addr × Obj)) (H : Hp) (b : Addr) : Prop :=
  H b = none ∧ b ≠ X.env.locals ∧ b ∉ X.fs ∧ (b ∈ X.ex ∨ X.s₀.heap.objs.size ≤ b) ∧ (∀ x c, X.env.cells.lookup x = some c → c ≠ b) ∧ ∀ p ∈ X.pn ++ pins, p.1 ≠ b
theorem Inv.fpOk {X : Cx} {pins : List (Addr × Obj)} {σ : St} {H H' : Hp} {s : Shared} {b : Addr} (I : Inv X pins σ H s) (hb : s.heap.objs.size ≤ b) (hn : H' b = none) : FpOk X pins H' b := by
  refine ⟨hn, Nat.ne_of_gt (Nat.lt_of_lt_of_le I.lt hb), I.nofs hb, .inr (Nat.le_trans I.sz hb), fun x c e z => ?_, fun p hp z => ?_⟩
  · obtain ⟨v, q⟩ := I.cell x c e
    exact absurd (Nat.lt_of_lt_of_le q.lt (by rw [z]; exact hb)) (Nat.lt_irrefl _)
  · exact absurd (Nat.lt_of_lt_of_le (Heap.lt_size (I.pin p hp).1) (by rw [z]; exact hb)) (Nat.lt_irrefl _)
structure Turn (P : Program) (w : World) (K : PySem.W.Frag) (tg : Expr) (J : It) (fp : List Addr) (it : Addr) (tn : Nat → Heap → Prop) : Prop where
  mem : it ∈ fp
  obj : ∀ i h, tn i h → ∀ b ∈ fp, ∃ o, h.get? b = some o ∧ ∀ v, o.data ≠ .cell v
  keep : ∀ i h h', tn i h → (∀ b ∈ fp, ∀ o, h.get? b = some o → h'.get? b = some o) → tn i h'
  item : ∀ (X : Cx), X.prog = P → X.w = w → X.K = K → X.calm = true → ∀ (i : Nat) (pins : List (Addr × Obj)) (s : Shared) (σ : St) (H : Hp) (E : Value → Shared → Prop), Inv X pins σ H s → (∀ b ∈ fp, FpOk X pins H b) → tn i s.heap → J.go i H →
    wpAny (model P w) X.A (pyNext (.ref it)) (fun r s1 => ∃ u, r = some u ∧
      wpAny (model P w) X.A (letOwnedTupleGo tg (.ref it) u) (fun _ s2 => ∃ x H', Inv X pins σ H' s2 ∧ RelV x u ∧ J.yld i H x H' ∧ tn (i + 1) s2.heap ∧ ∀ b ∈ fp, H' b = none) E s1) E s
  done : ∀ (X : Cx), X.prog = P → X.w = w → X.K = K → X.calm = true → ∀ (i : Nat) (pins : List (Addr × Obj)) (s : Shared) (σ : St) (H : Hp) (E : Value → Shared → Prop), Inv X pins σ H s → (∀ b ∈ fp, FpOk X pins H b) → tn i s.heap → J.stop i H →
    wpAny (model P w) X.A (pyNext (.ref it)) (fun r s1 => r = none ∧ Inv X pins σ H s1) E s
  self : ∀ (A : Around) (i : Nat) (s : Shared) (Q : Value → Shared → Prop) (E : Value → Shared → Prop), tn i s.heap → Q (.ref it) s → wpAny (model P w) A (pyIter (.ref it)) Q E s
abbrev TI := St → Hp → (It → Hp → Prop) → Prop
def PIE (X : Cx) (pins : List (Addr × Obj)) (σ : St) (tg : Expr) (R : It → Hp → Prop) (itv : Value) (s2 : Shared) : Prop :=
  ∃ (it : Addr) (fp : List Addr) (tn : Nat → Heap → Prop) (J : It) (H' : Hp), itv = .ref it ∧ Inv X pins σ H' s2 ∧ Turn X.prog X.w X.K tg J fp it tn ∧ tn 0 s2.heap ∧ (∀ b ∈ fp, FpOk X pins H' b) ∧ R J H'
def PI (X : Cx) (tg iter : Expr) (wi : TI) : Prop :=
  ∀ (pins : List (Addr × Obj)) (s : Shared) (σ : St) (H : Hp) (R : It → Hp → Prop), Inv X pins σ H s → wi σ H R →
    wpAny (model X.prog X.w) X.A (eval iter X.env) (fun v s1 => wpAny (model X.prog X.w) X.A (pyIter v) (PIE X pins σ tg R) X.xe s1) X.xe s
theorem go_of {M : Model} {A : Around} {E : Value → Shared → Prop} {s : Shared} {tg : Expr} {it : Addr} {u : Value} {o : Obj} {n : String} {vs : Array Value} {Q : Unit → Shared → Prop} (ho : s.heap.get? it = some o) (hc : o.cls = .type n) (hd : o.data = .fields vs)
    (hn : ["enumerate", "zip", "dict_itemiterator", "dict_reverseitemiterator", "odict_iterator", "itertools.zip_longest", "itertools.pairwise"].contains n = false) (hQ : Q () s) : wpAny M A (letOwnedTupleGo tg (.ref it) u) Q E s := by
  unfold letOwnedTupleGo
  cases tg <;> first
    | exact wpAny_pure hQ
    | (cases u <;> first
        | exact wpAny_pure hQ
        | (refine wpAny_bind (wpAny_load ho ?_)
           rw [hc, hd]
           show wpAny M A (if (["enumerate", "zip", "dict_itemiterator", "dict_reverseitemiterator", "odict_iterator", "itertools.zip_longest", "itertools.pairwise"].contains n && vs[0]? == some (rawInt _)) = true then _ else _) Q E s
           rw [if_neg (by intro h; rw [hn, Bool.false_and] at h; cases h)]
           exact wpAny_pure hQ))
def Itl (K : PySem.W.Frag) (a : Addr) : It :=
  ⟨fun i H => ∃ xs x, SqL K H a xs ∧ xs[i]? = some x, fun i H x H' => H' = H ∧ ∀ xs, SqL K H a xs → xs[i]? = some x, fun i H => ∃ xs, SqL K H a xs ∧ xs.length ≤ i⟩
def Itt (K : PySem.W.Frag) (a : Addr) : It :=
  ⟨fun i H => ∃ xs x, SqT K H a xs ∧ xs[i]? = some x, fun i H x H' => H' = H ∧ ∀ xs, SqT K H a xs → xs[i]? = some x, fun i H => ∃ xs, SqT K H a xs ∧ xs.length ≤ i⟩
def Itr (lo : Int) (n : Nat) : It := ⟨fun i _ => i < n, fun i H x H' => H' = H ∧ x = .int (lo + i), fun i _ => n ≤ i⟩
theorem turn_list {P : Program} {w : World} {K : PySem.W.Frag} {tg : Expr} (a it : Addr) : Turn P w K tg (Itl K a) [it] it (fun i h => h.IsListIter it a i) where
  mem := by simp
  obj := fun i h st b hb => by
    have e : b = it := by simpa using hb
    subst e
    obtain ⟨o, e, c, d⟩ := st
    exact ⟨o, e, fun v z => by rw [d] at z; cases z⟩
  keep := fun i h h' st k => st.at fun o e => k it (by simp) o e
  item := by
    intro X hP hw hK hc i pins s σ H E I hf st hg
    subst hP hw hK
    obtain ⟨xs, x, hq, hx⟩ := hg
    obtain ⟨its, rv, p, hz⟩ := I.list hq
    obtain ⟨u, hu, ru⟩ := rv.get hx
    obtain ⟨f0, f1, f2, f3, f4, f5⟩ := hf it (by simp)
    refine wpAny_pyNext_list_item st p.isList (x := u) (by simpa using hu) fun h' st' sb => ?_
    have I1 : Inv X pins σ H { s with heap := h' } := I.turned (t' := s.toks) (fun b o hb e => (sb.2 b hb).trans e) f0 f1 f3 f4 f5
    obtain ⟨o, e, c, d⟩ := id st'
    exact ⟨u, rfl, go_of (s := { s with heap := h' }) e c d (by decide) ⟨x, H, I1, ru, ⟨rfl, fun ys hy => by rw [I.list_inj hy hq]; exact hx⟩, st', fun b hb => (hf b hb).1⟩⟩
  done := by
    intro X hP hw hK hc i pins s σ H E I hf st hg
    subst hP hw hK
    obtain ⟨xs, hq, hx⟩ := hg
    obtain ⟨its, rv, p, hz⟩ := I.list hq
    obtain ⟨f0, f1, f2, f3, f4, f5⟩ := hf it (by simp)
    have hl := rv.length
    exact wpAny_pyNext_list_end (I.ok.hd hc) st p.isList (by simp; omega) fun h' eb => ⟨rfl, I.turned (t' := s.toks) (fun b o hb e => eb b o hb e) f0 f1 f3 f4 f5⟩
  self := fun _ _ _ _ _ st h => wpAny_pyIter_listiter st h
theorem turn_tuple {P : Program} {w : World} {K : PySem.W.Frag} {tg : Expr} (a it : Addr) : Turn P w K tg (Itt K a) [it] it (fun i h => h.IsTupleIter it a i) where
  mem := by simp
  obj := fun i h st b hb => by
    have e : b = it := by simpa using hb
    subst e
    obtain ⟨o, e, c, d⟩ := st
    exact ⟨o, e, fun v z => by rw [d] at z; cases z⟩
  keep := fun i h h' st k => st.at fun o e => k it (by simp) o e
  item := by
    intro X hP hw hK hc i pins s σ H E I hf st hg
    subst hP hw hK
    obtain ⟨xs, x, hq, hx⟩ := hg
    obtain ⟨its, rv, p, hz⟩ := I.tuple hq
    obtain ⟨u, hu, ru⟩ := rv.get hx
    obtain ⟨f0, f1, f2, f3, f4, f5⟩ := hf it (by simp)
    refine wpAny_pyNext_tuple_item st (show s.heap.IsTuple a its.toArray from p) (x := u) (by simpa using hu) fun h' st' sb => ?_
    have I1 : Inv X pins σ H { s with heap := h' } := I.turned (t' := s.toks) (fun b o hb e => (sb.2 b hb).trans e) f0 f1 f3 f4 f5
    obtain ⟨o, e, c, d⟩ := id st'
    exact ⟨u, rfl, go_of (s := { s with heap := h' }) e c d (by decide) ⟨x, H, I1, ru, ⟨rfl, fun ys hy => by rw [I.tuple_inj hy hq]; exact hx⟩, st', fun b hb => (hf b hb).1⟩⟩
  done := by
    intro X hP hw hK hc i pins s σ H E I hf st hg
    subst hP hw hK
    obtain ⟨xs, hq, hx⟩ := hg
    obtain ⟨its, rv, p, hz⟩ := I.tuple hq
    obtain ⟨f0, f1, f2, f3, f4, f5⟩ := hf it (by simp)
    have hl := rv.length
    exact wpAny_pyNext_tuple_end (I.ok.hd hc) st (show s.heap.IsTuple a its.toArray from p) (by simp; omega) fun h' eb => ⟨rfl, I.turned (t' := s.toks) (fun b o hb e => eb b o hb e) f0 f1 f3 f4 f5⟩
  self := fun _ _ _ _ _ st h => wpAny_pyIter_tupleiter st h
theorem turn_range {P : Program} {w : World} {K : PySem.W.Frag} {tg : Expr} (it : Addr) (lo : Int) (n : Nat) : Turn P w K tg (Itr lo n) [it] it (fun i h => IsRangeIter h it (lo + (i : Nat) * 1) ((n : Int) - (i : Nat)) 1) where
  mem := by simp
  obj := fun i h st b hb => by
    have e : b = it := by simpa using hb
    subst e
    exact ⟨_, st, fun v z => by
      have z' : Data.fields _ = Data.cell v := z
      cases z'⟩
  keep := fun i h h' st k => k it (by simp) _ st
  item := by
    intro X hP hw hK hc i pins s σ H E I hf st hg
    subst hP hw hK
    obtain ⟨f0, f1, f2, f3, f4, f5⟩ := hf it (by simp)
    have W := Walks.range (prog := X.prog) (w := X.w) (I.ok.hd hc) it lo 1 n
    refine W.item i s _ _ hg st fun v h' tk hv st' kk => ?_
    obtain ⟨t, rfl⟩ := hv
    have I1 : Inv X pins σ H { s with heap := h', toks := tk } := I.turned (fun b o hb e => kk b o (by simpa using hb) e) f0 f1 f3 f4 f5
    refine ⟨_, rfl, go_of (s := { s with heap := h', toks := tk }) (n := "range_iterator") st' rfl rfl (by decide) ⟨.int (lo + i), H, I1, ⟨t, ?_⟩, ⟨rfl, rfl⟩, st', fun b hb => (hf b hb).1⟩⟩
    rw [Int.mul_one]
  done := by
    intro X hP hw hK hc i pins s σ H E I hf st hg
    subst hP hw hK
    obtain ⟨f0, f1, f2, f3, f4, f5⟩ := hf it (by simp)
    exact wpAny_pyNext_range_end (I.ok.hd hc) st (by have : n ≤ i := hg; omega) fun h' eb => ⟨rfl, I.turned (t' := s.toks) (fun b o hb e => eb b o hb e) f0 f1 f3 f4 f5⟩
  self := fun _ _ _ _ _ st h => wpAny_pyIter_rangeiter st h
end L2
namespace L2
open PySem PySem.Spec PyProof.Rows
section
variable {X : Cx} {tg : Expr}
def iList (K : PySem.W.Frag) (tl : TE) : TI := fun σ H R => tl σ H fun x H1 => ∃ a, x = .ref a ∧ (∃ xs, SqL K H1 a xs) ∧ R (Itl K a) H1
def iTup (K : PySem.W.Frag) (tl : TE) : TI := fun σ H R => tl σ H fun x H1 => ∃ a, x = .ref a ∧ (∃ xs, SqT K H1 a xs) ∧ R (Itt K a) H1
theorem pi_list {l : Expr} {tl : TE} (hl : PE X l tl) : PI X tg l (iList X.K tl) := by
  intro pins s σ H R I h
  refine thn (hl pins s σ H _ I h) fun v s1 ⟨x, H1, I1, r1, q1⟩ => ?_
  obtain ⟨a, e, ⟨xs, hq⟩, q⟩ := q1
  subst e
  cases r1
  obtain ⟨its, rv, p, hz⟩ := I1.list hq
  refine wpAny_pyIter_list p.isList ?_
  refine ⟨s1.heap.objs.size, [s1.heap.objs.size], _, _, H1, rfl, I1.kept (t' := s1.toks) fun b o e => Heap.get?_push_of_some _ e, turn_list a _, ⟨_, Heap.get?_push_size _ rfl, rfl, rfl⟩, fun b hb => ?_, q⟩
  have e : b = s1.heap.objs.size := by simpa using hb
  subst e
  exact I1.fpOk (Nat.le_refl _) (I1.hok.fresh (Nat.le_refl _))
theorem pi_tup {l : Expr} {tl : TE} (hl : PE X l tl) : PI X tg l (iTup X.K tl) := by
  intro pins s σ H R I h
  refine thn (hl pins s σ H _ I h) fun v s1 ⟨x, H1, I1, r1, q1⟩ => ?_
  obtain ⟨a, e, ⟨xs, hq⟩, q⟩ := q1
  subst e
  cases r1
  obtain ⟨its, rv, p, hz⟩ := I1.tuple hq
  refine wpAny_pyIter_tuple (show s1.heap.IsTuple a its.toArray from p) ?_
  refine ⟨s1.heap.objs.size, [s1.heap.objs.size], _, _, H1, rfl, I1.kept (t' := s1.toks) fun b o e => Heap.get?_push_of_some _ e, turn_tuple a _, ⟨_, Heap.get?_push_size _ rfl, rfl, rfl⟩, fun b hb => ?_, q⟩
  have e : b = s1.heap.objs.size := by simpa using hb
  subst e
  exact I1.fpOk (Nat.le_refl _) (I1.hok.fresh (Nat.le_refl _))
theorem range_it {pins : List (Addr × Obj)} {σ : St} {H : Hp} {s : Shared} {R : It → Hp → Prop} {E : Value → Shared → Prop} {lo hi : Int} {t u v : Tok} {tk : Nat} (I : Inv X pins σ H s) (h1 : -(2 ^ 62) ≤ lo) (h2 : lo < 2 ^ 62) (h3 : -(2 ^ 62) ≤ hi) (h4 : hi < 2 ^ 62)
    (q : R (Itr lo (hi - lo).toNat) H) : wpAny (model X.prog X.w) X.A (pyIter (.ref s.heap.objs.size)) (PIE X pins σ tg R) E { s with heap := s.heap.push { cls := .type "range", data := .fields #[.int lo t, .int hi u, .int 1 v] }, toks := tk } := by
  refine wpAny_pyIter_range (IsRange.new ..) (small_one h1 h2 h3 h4) ?_
  have I1 : Inv X pins σ H { s with heap := s.heap.push { cls := .type "range", data := .fields #[.int lo t, .int hi u, .int 1 v] }, toks := tk } := I.kept fun b o e => Heap.get?_push_of_some _ e
  refine ⟨(s.heap.push { cls := .type "range", data := .fields #[.int lo t, .int hi u, .int 1 v] }).objs.size, [(s.heap.push { cls := .type "range", data := .fields #[.int lo t, .int hi u, .int 1 v] }).objs.size], _, _, H, rfl,
    I1.kept (t' := tk) fun b o e => Heap.get?_push_of_some _ e, turn_range _ lo (hi - lo).toNat, ?_, fun b hb => ?_, q⟩
  · have e1 : lo + ((0 : Nat) : Int) * 1 = lo := by simp
    have e2 : (((hi - lo).toNat : Nat) : Int) - ((0 : Nat) : Int) = Builtin.Range.rangeSize lo hi 1 := by rw [rangeSize_one]; split <;> omega
    show IsRangeIter _ _ (lo + ((0 : Nat) : Int) * 1) ((((hi - lo).toNat : Nat) : Int) - ((0 : Nat) : Int)) 1
    rw [e1, e2]
    exact Heap.get?_push_size _ rfl
  · have e : b = (s.heap.push { cls := .type "range", data := .fields #[.int lo t, .int hi u, .int 1 v] }).objs.size := by simpa using hb
    subst e
    exact I1.fpOk (Nat.le_refl _) (I1.hok.fresh (Nat.le_refl _))
def iRng1 (ta : TA) : TI := fun σ H R => ta σ H fun vs H1 => ∃ j : Int, vs = [.int j] ∧ -(2 ^ 62) ≤ j ∧ j < 2 ^ 62 ∧ R (Itr 0 j.toNat) H1
def iRng2 (ta : TA) : TI := fun σ H R => ta σ H fun vs H1 => ∃ i j : Int, vs = [.int i, .int j] ∧ (-(2 ^ 62) ≤ i ∧ i < 2 ^ 62 ∧ -(2 ^ 62) ≤ j ∧ j < 2 ^ 62) ∧ R (Itr i (j - i).toNat) H1
theorem pi_range1 {a : Expr} {ta : TA} {p pos : Pos} (hg : Gl X "range") (hm : X.mg "range" = none) (ha : PA X [a] ta) (hs : starEach [a] X.env = [(false, eval a X.env)] := by rfl) : PI X tg (.Call (.Name "range" p) [a] [] pos) (iRng1 ta) := by
  intro pins s σ H R I h
  refine Call_ (ld_blt I hg hm boot_range (PyProof.Rows.callWith_type1 (thn (ha pos pins s σ H _ I h) fun us s1 ⟨vs, H1, I1, r1, q1⟩ => ?_) hs rfl))
  obtain ⟨j, e, q1, q2, q⟩ := q1
  subst e
  cases r1 with
  | cons r rr =>
    cases rr
    obtain ⟨t, rfl⟩ := r
    exact call_range_1 (range_it I1 (by omega) (by omega) q1 q2 (by simpa using q))
theorem pi_range2 {a b : Expr} {ta : TA} {p pos : Pos} (hg : Gl X "range") (hm : X.mg "range" = none) (ha : PA X [a, b] ta) (hs : starEach [a, b] X.env = [(false, eval a X.env), (false, eval b X.env)] := by rfl) (hs2 : starEach [b] X.env = [(false, eval b X.env)] := by rfl) :
    PI X tg (.Call (.Name "range" p) [a, b] [] pos) (iRng2 ta) := by
  intro pins s σ H R I h
  refine Call_ (ld_blt I hg hm boot_range (PyProof.Rows.callWith_type1 (thn (ha pos pins s σ H _ I h) fun us s1 ⟨vs, H1, I1, r1, q1⟩ => ?_) (by rw [hs, hs2]) (by rw [hs2]; rfl)))
  obtain ⟨i, j, e, ⟨q1, q2, q3, q4⟩, q⟩ := q1
  subst e
  cases r1 with
  | cons r rr =>
    cases rr with
    | cons r' rr =>
      cases rr
      obtain ⟨t, rfl⟩ := r
      obtain ⟨t', rfl⟩ := r'
      exact call_range_2 (range_it I1 q1 q2 q3 q4 q)
def tFor (wi : TI) (g : TG) (tb : TS) : TS := fun D σ H => wi σ H fun J H1 => ∃ W : Nat → Nat → St → Hp → Prop, (∃ m, W 0 m σ H1) ∧ ∀ i m σ H, W i m σ H →
  (J.stop i H ∧ D.nx σ H) ∨ (J.go i H ∧ ∃ N : St → Hp → Prop, (∀ σ' H', N σ' H' → ∃ m', m' < m ∧ W (i + 1) m' σ' H') ∧ ∀ x H', J.yld i H x H' → g x σ H' fun σ2 H2 => tb { D with nx := N, ct := N, bk := D.nx } σ2 H2)
def pinsAt (fp : List Addr) (h : Heap) : List (Addr × Obj) := fp.filterMap fun b => (h.get? b).map fun o => (b, o)
theorem mem_pinsAt {fp : List Addr} {h : Heap} {b : Addr} {o : Obj} (hb : b ∈ fp) (e : h.get? b = some o) : (b, o) ∈ pinsAt fp h := List.mem_filterMap.mpr ⟨b, hb, by rw [e]; rfl⟩
theorem of_pinsAt {fp : List Addr} {h : Heap} {p : Addr × Obj} (hp : p ∈ pinsAt fp h) : p.1 ∈ fp ∧ h.get? p.1 = some p.2 := by
  obtain ⟨b, hb, e⟩ := List.mem_filterMap.mp hp
  cases q : h.get? b with
  | none => rw [q] at e; cases e
  | some o =>
    rw [q] at e
    have e' : (b, o) = p := Option.some.inj e
    subst e'
    exact ⟨hb, q⟩
theorem Inv.pinned {pins : List (Addr × Obj)} {σ : St} {H : Hp} {s : Shared} {fp : List Addr} (I : Inv X pins σ H s) (hf : ∀ b ∈ fp, FpOk X pins H b) (ho : ∀ b ∈ fp, ∃ o, s.heap.get? b = some o ∧ ∀ v, o.data ≠ .cell v) : Inv X (pins ++ pinsAt fp s.heap) σ H s :=
  I.pins_of fun p hp => (List.mem_append.mp hp).elim (fun z => I.pin p (List.mem_append_right _ z)) fun z => by
    obtain ⟨hb, e⟩ := of_pinsAt z
    obtain ⟨f0, f1, f2, _⟩ := hf p.1 hb
    obtain ⟨o, e', d⟩ := ho p.1 hb
    rw [e] at e'; cases e'
    exact ⟨e, f0, f1, f2, d⟩
theorem Inv.unpinned {pins pl : List (Addr × Obj)} {σ : St} {H : Hp} {s : Shared} (I : Inv X (pins ++ pl) σ H s) : Inv X pins σ H s := I.pins_of fun p hp => I.pin p (List.mem_append_right _ (List.mem_append_left _ hp))
theorem ps_for {iter : Expr} {body : List Stmt} {wi : TI} {g : TG} {tb : TS} {pos : Pos} (hp : PassesOwn (model X.prog X.w) X.A X.env X.xe) (hc : X.calm = true) (hi : PI X tg iter wi) (hg : PG X tg g) (hb : PSs X body tb)
    (hs : ∀ x, foldedSetIterable iter X.env x = pure x := by intro _; rfl) : PS X (.For tg iter body [] pos) (tFor wi g tb) := by
  intro pins s σ H D I h
  refine wpAny_For (thn (hi pins s σ H _ I h) fun v s1 h1 => thn h1 fun itv s2 h2 => ?_) hs
  obtain ⟨it, fp, tn, J, H2, e, I2, T, st2, f2, W, ⟨m0, w0⟩, turn⟩ := h2
  subst e
  -- what stays true of the iterator's objects through the loop
  have stat : ∀ {H' : Hp}, (∀ b ∈ fp, H' b = none) → ∀ b ∈ fp, FpOk X pins H' b := fun hn b hb => ⟨hn b hb, (f2 b hb).2⟩
  refine codeAny_forLoop_any (fun n s' => ∃ i σ' H', Inv X pins σ' H' s' ∧ tn i s'.heap ∧ (∀ b ∈ fp, H' b = none) ∧ W i n σ' H') ?_ m0 ⟨0, σ, H2, I2, st2, fun b hb => (f2 b hb).1, w0⟩
  rintro n s3 ⟨i, σ3, H3, I3, st3, fr3, w3⟩
  rcases turn i n σ3 H3 w3 with ⟨stop, qn⟩ | ⟨go, N, hN, step⟩
  · refine wpAny_passesOwn hp (thn (T.done X rfl rfl rfl hc i pins s3 σ3 H3 X.xe I3 (stat fr3) st3 stop) fun r s4 ⟨hr, I4⟩ => ?_)
    subst hr
    exact wpAny_execs_nil ⟨σ3, H3, I4, qn⟩
  · refine wpAny_passesOwn hp (thn (T.item X rfl rfl rfl hc i pins s3 σ3 H3 X.xe I3 (stat fr3) st3 go) fun r s4 ⟨u, hr, h4⟩ => ?_)
    subst hr
    refine wpAny_passesOwn hp (thn h4 fun _ s5 ⟨x, H5, I5, r5, y5, st5, fr5⟩ => ?_)
    have I5' := I5.pinned (stat fr5) (T.obj _ _ st5)
    refine wpAny_passesOwn hp (thn (hg _ s5 σ3 H5 x u _ I5' r5 (step x H5 y5)) fun _ s6 ⟨σ6, H6, I6, q6⟩ => ?_)
    refine wpAny_passesOwn hp (thn (hb _ s6 σ6 H6 _ I6 q6) fun f s7 q7 => ?_)
    have again : ∀ {σ7 : St} {H7 : Hp}, Inv X (pins ++ pinsAt fp s5.heap) σ7 H7 s7 → N σ7 H7 → ∃ m, m < n ∧ ∃ i σ' H', Inv X pins σ' H' s7 ∧ tn i s7.heap ∧ (∀ b ∈ fp, H' b = none) ∧ W i m σ' H' := fun {σ7 H7} I7 n7 => by
      obtain ⟨m', hm, w7⟩ := hN σ7 H7 n7
      refine ⟨m', hm, i + 1, σ7, H7, I7.unpinned, T.keep _ _ _ st5 fun b hb o e => (I7.pin (b, o) (List.mem_append_right _ (List.mem_append_right _ (mem_pinsAt hb e)))).1, fun b hb => ?_, w7⟩
      obtain ⟨o, e, d⟩ := T.obj _ _ st5 b hb
      exact (I7.pin (b, o) (List.mem_append_right _ (List.mem_append_right _ (mem_pinsAt hb e)))).2.1
    cases f with
    | next => obtain ⟨σ7, H7, I7, n7⟩ := q7; exact again I7 n7
    | cont => obtain ⟨σ7, H7, I7, n7⟩ := q7; exact again I7 n7
    | brk => obtain ⟨σ7, H7, I7, q7⟩ := q7; exact ⟨σ7, H7, I7.unpinned, q7⟩
    | ret v => obtain ⟨x7, σ7, H7, I7, r7, q7⟩ := q7; exact ⟨x7, σ7, H7, I7.unpinned, r7, q7⟩
end
theorem for_list {K : PySem.W.Frag} {a : Addr} {xs : List V} {g : TG} {tb : TS} {D : Ends} {σ : St} {H : Hp} (Pv : Nat → St → Hp → Prop) (h0 : Pv 0 σ H) (hl : ∀ i σ H, i ≤ xs.length → Pv i σ H → SqL K H a xs)
    (hs : ∀ i x σ H, xs[i]? = some x → Pv i σ H → g x σ H fun σ2 H2 => tb { D with nx := Pv (i + 1), ct := Pv (i + 1), bk := D.nx } σ2 H2) (hd : ∀ σ H, Pv xs.length σ H → D.nx σ H) :
    ∃ W : Nat → Nat → St → Hp → Prop, (∃ m, W 0 m σ H) ∧ ∀ i m σ H, W i m σ H →
      ((Itl K a).stop i H ∧ D.nx σ H) ∨ ((Itl K a).go i H ∧ ∃ N : St → Hp → Prop, (∀ σ' H', N σ' H' → ∃ m', m' < m ∧ W (i + 1) m' σ' H') ∧ ∀ x H', (Itl K a).yld i H x H' → g x σ H' fun σ2 H2 => tb { D with nx := N, ct := N, bk := D.nx } σ2 H2) := by
  refine ⟨fun i m σ H => m = xs.length - i ∧ i ≤ xs.length ∧ Pv i σ H, ⟨xs.length, by simp, Nat.zero_le _, h0⟩, ?_⟩
  rintro i m σ H ⟨rfl, hi, p⟩
  have q := hl i σ H hi p
  by_cases hlt : i < xs.length
  · refine .inr ⟨⟨xs, xs[i], q, by simp [hlt]⟩, Pv (i + 1), fun σ' H' p' => ⟨xs.length - (i + 1), by omega, rfl, hlt, p'⟩, fun x H' y => ?_⟩
    obtain ⟨e, y⟩ := y
    subst e
    exact hs i x σ _ (y xs q) p
  · have e : i = xs.length := by omega
    subst e
    exact .inl ⟨⟨xs, q, Nat.le_refl _⟩, hd σ H p⟩
theorem for_tup {K : PySem.W.Frag} {a : Addr} {xs : List V} {g : TG} {tb : TS} {D : Ends} {σ : St} {H : Hp} (Pv : Nat → St → Hp → Prop) (h0 : Pv 0 σ H) (hl : ∀ i σ H, i ≤ xs.length → Pv i σ H → SqT K H a xs)
    (hs : ∀ i x σ H, xs[i]? = some x → Pv i σ H → g x σ H fun σ2 H2 => tb { D with nx := Pv (i + 1), ct := Pv (i + 1), bk := D.nx } σ2 H2) (hd : ∀ σ H, Pv xs.length σ H → D.nx σ H) :
    ∃ W : Nat → Nat → St → Hp → Prop, (∃ m, W 0 m σ H) ∧ ∀ i m σ H, W i m σ H →
      ((Itt K a).stop i H ∧ D.nx σ H) ∨ ((Itt K a).go i H ∧ ∃ N : St → Hp → Prop, (∀ σ' H', N σ' H' → ∃ m', m' < m ∧ W (i + 1) m' σ' H') ∧ ∀ x H', (Itt K a).yld i H x H' → g x σ H' fun σ2 H2 => tb { D with nx := N, ct := N, bk := D.nx } σ2 H2) := by
  refine ⟨fun i m σ H => m = xs.length - i ∧ i ≤ xs.length ∧ Pv i σ H, ⟨xs.length, by simp, Nat.zero_le _, h0⟩, ?_⟩
  rintro i m σ H ⟨rfl, hi, p⟩
  have q := hl i σ H hi p
  by_cases hlt : i < xs.length
  · refine .inr ⟨⟨xs, xs[i], q, by simp [hlt]⟩, Pv (i + 1), fun σ' H' p' => ⟨xs.length - (i + 1), by omega, rfl, hlt, p'⟩, fun x H' y => ?_⟩
    obtain ⟨e, y⟩ := y
    subst e
    exact hs i x σ _ (y xs q) p
  · have e : i = xs.length := by omega
    subst e
    exact .inl ⟨⟨xs, q, Nat.le_refl _⟩, hd σ H p⟩
theorem for_range {lo : Int} {n : Nat} {g : TG} {tb : TS} {D : Ends} {σ : St} {H : Hp} (Pv : Nat → St → Hp → Prop) (h0 : Pv 0 σ H)
    (hs : ∀ i σ H, i < n → Pv i σ H → g (.int (lo + i)) σ H fun σ2 H2 => tb { D with nx := Pv (i + 1), ct := Pv (i + 1), bk := D.nx } σ2 H2) (hd : ∀ σ H, Pv n σ H → D.nx σ H) :
    ∃ W : Nat → Nat → St → Hp → Prop, (∃ m, W 0 m σ H) ∧ ∀ i m σ H, W i m σ H →
      ((Itr lo n).stop i H ∧ D.nx σ H) ∨ ((Itr lo n).go i H ∧ ∃ N : St → Hp → Prop, (∀ σ' H', N σ' H' → ∃ m', m' < m ∧ W (i + 1) m' σ' H') ∧ ∀ x H', (Itr lo n).yld i H x H' → g x σ H' fun σ2 H2 => tb { D with nx := N, ct := N, bk := D.nx } σ2 H2) := by
  refine ⟨fun i m σ H => m = n - i ∧ i ≤ n ∧ Pv i σ H, ⟨n, by simp, Nat.zero_le _, h0⟩, ?_⟩
  rintro i m σ H ⟨rfl, hi, p⟩
  by_cases hlt : i < n
  · refine .inr ⟨hlt, Pv (i + 1), fun σ' H' p' => ⟨n - (i + 1), by omega, rfl, hlt, p'⟩, fun x H' y => ?_⟩
    obtain ⟨e, y⟩ := y
    subst e y
    exact hs i σ _ hlt p
  · have e : i = n := by omega
    subst e
    exact .inl ⟨Nat.le_refl _, hd σ H p⟩
end L2
namespace L2
open PySem PySem.Spec PyProof.Rows
abbrev R2 := V → V → Hp → VK → Prop
def OpR (X : Cx) (f : Value → Value → Sem Value) (r : R2) : Prop :=
  ∀ (pins : List (Addr × Obj)) (s : Shared) (σ : St) (H : Hp) (x y : V) (v u : Value) (Q : VK), Inv X pins σ H s → RelV x v → RelV y u → r x y H Q →
    wpAny (model X.prog X.w) X.A (f v u) (EP X pins σ Q) X.xe s
def UnR (X : Cx) (f : Value → Sem Value) (r : V → Hp → VK → Prop) : Prop :=
  ∀ (pins : List (Addr × Obj)) (s : Shared) (σ : St) (H : Hp) (x : V) (v : Value) (Q : VK), Inv X pins σ H s → RelV x v → r x H Q →
    wpAny (model X.prog X.w) X.A (f v) (EP X pins σ Q) X.xe s
def CallR (X : Cx) (f : Value) (r : List V → Hp → VK → Prop) : Prop :=
  ∀ (pins : List (Addr × Obj)) (s : Shared) (σ : St) (H : Hp) (xs : List V) (us : List Value) (Q : VK), Inv X pins σ H s → Vals xs us → r xs H Q →
    wpAny (model X.prog X.w) X.A (call f us) (EP X pins σ Q) X.xe s
def tOp (r : R2) (ta tb : TE) : TE := fun σ H Q => ta σ H fun x H1 => tb σ H1 fun y H2 => r x y H2 Q
def tUn (r : V → Hp → VK → Prop) (ta : TE) : TE := fun σ H Q => ta σ H fun x H1 => r x H1 Q
def rI (C : Int → Int → Prop) (g : Int → Int → V) : R2 := fun x y H Q => ∃ i j, x = .int i ∧ y = .int j ∧ C i j ∧ Q (g i j) H
def rI0 (g : Int → Int → V) : R2 := fun x y H Q => ∃ i j, x = .int i ∧ y = .int j ∧ Q (g i j) H
def rU (g : Int → V) : V → Hp → VK → Prop := fun x H Q => ∃ i, x = .int i ∧ Q (g i) H
section
variable {X : Cx} {a b c : Expr} {ta tb tc : TE} {pos : Pos}
theorem binT (ha : PE X a ta) (hb : PE X b tb) {pins : List (Addr × Obj)} {s : Shared} {σ : St} {H : Hp} {R : V → V → Hp → Prop} (I : Inv X pins σ H s)
    (h : ta σ H fun x H1 => tb σ H1 fun y H2 => R x y H2) {Q : Value → Shared → Prop} {f : Value → Value → Sem Value}
    (hf : ∀ v u s2 x y H2, Inv X pins σ H2 s2 → RelV x v → RelV y u → R x y H2 → wpAny (model X.prog X.w) X.A (f v u) Q X.xe s2) :
    wpAny (model X.prog X.w) X.A (eval a X.env) (fun v s₁ => wpAny (model X.prog X.w) X.A (eval b X.env) (fun u s₂ => wpAny (model X.prog X.w) X.A (f v u) Q X.xe s₂) X.xe s₁) X.xe s := by
  refine thn (ha pins s σ H _ I h) fun v s1 ⟨x, H1, I1, r1, q1⟩ => ?_
  refine thn (hb pins s1 σ H1 _ I1 q1) fun u s2 ⟨y, H2, I2, r2, q2⟩ => ?_
  exact hf v u s2 x y H2 I2 r1 r2 q2
theorem pe_op {op : Operator} {r : R2} (ho : OpR X (binaryOp op) r) (ha : PE X a ta) (hb : PE X b tb) : PE X (.BinOp a op b pos) (tOp r ta tb) := by
  intro pins s σ H Q I h
  exact wpAny_BinOp (binT ha hb I h fun v u s2 x y H2 I2 rx ry q => ho pins s2 σ H2 x y v u Q I2 rx ry q)
theorem pe_un {op : UnaryOp} {r : V → Hp → VK → Prop} (ho : UnR X (unaryOp op) r) (ha : PE X a ta) : PE X (.UnaryOp op a pos) (tUn r ta) := by
  intro pins s σ H Q I h
  exact UnaryOp_ (thn (ha pins s σ H _ I h) fun v s1 ⟨x, H1, I1, r1, q1⟩ => ho pins s1 σ H1 x v Q I1 r1 q1)
theorem opI {f : Value → Value → Sem Value} {C : Int → Int → Prop} {g : Int → Int → Int}
    (rule : ∀ (i j : Int) (t u : Tok) (s : Shared) (Q : Value → Shared → Prop) (E : Value → Shared → Prop), C i j → Q (.int (g i j) s.toks) { s with toks := s.toks + 1 } → wpAny (model X.prog X.w) X.A (f (.int i t) (.int j u)) Q E s) :
    OpR X f (rI C fun i j => .int (g i j)) := by
  intro pins s σ H x y v u Q I rx ry h
  obtain ⟨i, j, rfl, rfl, hc, q⟩ := h
  obtain ⟨t, rfl⟩ := rx
  obtain ⟨t', rfl⟩ := ry
  exact rule i j t t' s _ _ hc ⟨.int (g i j), H, I.tok _, ⟨_, rfl⟩, q⟩
theorem opI0 {f : Value → Value → Sem Value} {g : Int → Int → Int}
    (rule : ∀ (i j : Int) (t u : Tok) (s : Shared) (Q : Value → Shared → Prop) (E : Value → Shared → Prop), Q (.int (g i j) s.toks) { s with toks := s.toks + 1 } → wpAny (model X.prog X.w) X.A (f (.int i t) (.int j u)) Q E s) :
    OpR X f (rI0 fun i j => .int (g i j)) := by
  intro pins s σ H x y v u Q I rx ry h
  obtain ⟨i, j, rfl, rfl, q⟩ := h
  obtain ⟨t, rfl⟩ := rx
  obtain ⟨t', rfl⟩ := ry
  exact rule i j t t' s _ _ ⟨.int (g i j), H, I.tok _, ⟨_, rfl⟩, q⟩
theorem opB0 {f : Value → Value → Sem Value} {g : Int → Int → Bool}
    (rule : ∀ (i j : Int) (t u : Tok) (s : Shared) (Q : Value → Shared → Prop) (E : Value → Shared → Prop), Q (.bool (g i j)) s → wpAny (model X.prog X.w) X.A (f (.int i t) (.int j u)) Q E s) :
    OpR X f (rI0 fun i j => .bl (g i j)) := by
  intro pins s σ H x y v u Q I rx ry h
  obtain ⟨i, j, rfl, rfl, q⟩ := h
  obtain ⟨t, rfl⟩ := rx
  obtain ⟨t', rfl⟩ := ry
  exact rule i j t t' s _ _ ⟨.bl (g i j), H, I, rfl, q⟩
def CDiv (i j : Int) : Prop := 0 < j ∧ j < 1073741824
def CMul (i j : Int) : Prop := (-(2 ^ 64) < i ∧ i < 2 ^ 64) ∨ (-(2 ^ 64) < j ∧ j < 2 ^ 64)
theorem CMul.ok {i j : Int} (h : CMul i j) : IntMulOk i j := by
  rcases h with ⟨h1, h2⟩ | ⟨h1, h2⟩
  · exact .of_left (intBits_le_64 h1 h2)
  · exact .of_right (intBits_le_64 h1 h2)
theorem op_add : OpR X (binaryOp .Add) (rI0 fun i j => .int (i + j)) := opI0 fun _ _ _ _ _ _ _ q => add_int q
theorem op_sub : OpR X (binaryOp .Sub) (rI0 fun i j => .int (i - j)) := opI0 fun _ _ _ _ _ _ _ q => sub_int q
theorem op_mul : OpR X (binaryOp .Mult) (rI CMul fun i j => .int (i * j)) := opI fun _ _ _ _ _ _ _ hc q => mul_int q hc.ok
theorem op_fdiv : OpR X (binaryOp .FloorDiv) (rI CDiv fun i j => .int (i / j)) := opI fun i j _ _ _ _ _ hc q => by
  have h1 : (0 : Int) < j := hc.1
  have h2 : j < 1073741824 := hc.2
  exact floordiv_int (by omega) (by rw [Int.fdiv_eq_ediv_of_nonneg i (by omega)]; exact q) (.inl (PyProof.noPylong_small (by omega)))
theorem op_mod : OpR X (binaryOp .Mod) (rI (fun _ j => 0 < j) fun i j => .int (i % j)) := opI fun i j _ _ _ _ _ hc q => by
  have h1 : (0 : Int) < j := hc
  exact mod_int' (by omega) (by rw [Int.fmod_eq_emod_of_nonneg i (by omega)]; exact q)
theorem unI {f : Value → Sem Value} {g : Int → Int}
    (rule : ∀ (i : Int) (t : Tok) (s : Shared) (Q : Value → Shared → Prop) (E : Value → Shared → Prop), Q (.int (g i) s.toks) { s with toks := s.toks + 1 } → wpAny (model X.prog X.w) X.A (f (.int i t)) Q E s) :
    UnR X f (rU fun i => .int (g i)) := by
  intro pins s σ H x v Q I rx h
  obtain ⟨i, rfl, q⟩ := h
  obtain ⟨t, rfl⟩ := rx
  exact rule i t s _ _ ⟨.int (g i), H, I.tok _, ⟨_, rfl⟩, q⟩
theorem un_neg : UnR X (unaryOp .USub) (rU fun i => .int (-i)) := unI fun _ _ _ _ _ q => neg_int q
end
def scal : V → V → Bool
  | .non, .non => true | .non, .int _ => true | .int _, .non => true | .non, .bl _ => true | .bl _, .non => true | .non, .str _ => true | .str _, .non => true
  | .int _, .int _ => true | .bl _, .bl _ => true | .str _, .str _ => true | .byt _, .byt _ => true
  | .int _, .str _ => true | .str _, .int _ => true | .bl _, .str _ => true | .str _, .bl _ => true
  | _, _ => false
def rEq : R2 := fun x y H Q => scal x y = true ∧ Q (.bl (decide (x = y))) H
def rNe : R2 := fun x y H Q => scal x y = true ∧ Q (.bl (!decide (x = y))) H
theorem dec_int {i j : Int} : decide (V.int i = V.int j) = (i == j) := by
  rw [Bool.eq_iff_iff]
  simp
theorem dec_bl {i j : Bool} : decide (V.bl i = V.bl j) = (i == j) := by
  rw [Bool.eq_iff_iff]
  simp
theorem dec_str {i j : Str} : decide (V.str i = V.str j) = (i == j) := by
  rw [Bool.eq_iff_iff]
  simp
theorem dec_byt {i j : Array UInt8} : decide (V.byt i = V.byt j) = (i.toList == j.toList) := by
  rw [Bool.eq_iff_iff]
  cases i
  cases j
  simp
section
variable {X : Cx} {a b c : Expr} {ta tb tc : TE} {pos : Pos}
theorem fin_bl {pins : List (Addr × Obj)} {σ : St} {H : Hp} {s : Shared} {Q : VK} {k k' : Bool} (I : Inv X pins σ H s) (q : Q (.bl k) H) (e : k = k') : EP X pins σ Q (.bool k') s := by
  subst e
  exact ⟨.bl k, H, I, rfl, q⟩
theorem op_eq : OpR X (compareOp .Eq) rEq := by
  intro pins s σ H x y v u Q I rx ry h
  obtain ⟨hs, q⟩ := h
  cases x with
  | non =>
    cases rx
    cases y with
    | non => cases ry; exact PySem.EqNone.eq_none_none (fin_bl I q (by simp))
    | bl j => cases ry; exact PySem.EqNone.eq_none_bool (fin_bl I q (by simp))
    | int j => obtain ⟨t', rfl⟩ := ry; exact PySem.EqNone.eq_none_int (fin_bl I q (by simp))
    | str j => obtain ⟨t', rfl⟩ := ry; exact PySem.EqNone.eq_none_str (fin_bl I q (by simp))
    | _ => exact absurd (show false = true from hs) Bool.false_ne_true
  | bl i =>
    cases rx
    cases y with
    | non => cases ry; exact PySem.EqNone.eq_bool_none (fin_bl I q (by simp))
    | bl j => cases ry; exact eq_bool (fin_bl I q dec_bl)
    | str j => obtain ⟨t', rfl⟩ := ry; exact PySem.EqMixed.eq_bool_str (fin_bl I q (by simp))
    | _ => exact absurd (show false = true from hs) Bool.false_ne_true
  | int i =>
    obtain ⟨t, rfl⟩ := rx
    cases y with
    | non => cases ry; exact PySem.EqNone.eq_int_none (fin_bl I q (by simp))
    | int j => obtain ⟨t', rfl⟩ := ry; exact eq_int (fin_bl I q dec_int)
    | str j => obtain ⟨t', rfl⟩ := ry; exact PySem.EqMixed.eq_int_str (fin_bl I q (by simp))
    | _ => exact absurd (show false = true from hs) Bool.false_ne_true
  | str i =>
    obtain ⟨t, rfl⟩ := rx
    cases y with
    | non => cases ry; exact PySem.EqNone.eq_str_none (fin_bl I q (by simp))
    | bl j => cases ry; exact PySem.EqMixed.eq_str_bool (fin_bl I q (by simp))
    | int j => obtain ⟨t', rfl⟩ := ry; exact PySem.EqMixed.eq_str_int (fin_bl I q (by simp))
    | str j => obtain ⟨t', rfl⟩ := ry; exact eq_str (fin_bl I q dec_str)
    | _ => exact absurd (show false = true from hs) Bool.false_ne_true
  | byt i =>
    obtain ⟨t, rfl⟩ := rx
    cases y with
    | byt j => obtain ⟨t', rfl⟩ := ry; exact PySem.W.eq_bytes (fin_bl I q dec_byt)
    | _ => exact absurd (show false = true from hs) Bool.false_ne_true
  | _ => cases y <;> exact absurd (show false = true from hs) Bool.false_ne_true
theorem op_ne : OpR X (compareOp .NotEq) rNe := by
  intro pins s σ H x y v u Q I rx ry h
  obtain ⟨hs, q⟩ := h
  cases x with
  | non =>
    cases rx
    cases y with
    | non => cases ry; exact PySem.EqNone.ne_none_none (fin_bl I q (by simp))
    | bl j => cases ry; exact PySem.EqNone.ne_none_bool (fin_bl I q (by simp))
    | int j => obtain ⟨t', rfl⟩ := ry; exact PySem.EqNone.ne_none_int (fin_bl I q (by simp))
    | str j => obtain ⟨t', rfl⟩ := ry; exact PySem.EqNone.ne_none_str (fin_bl I q (by simp))
    | _ => exact absurd (show false = true from hs) Bool.false_ne_true
  | bl i =>
    cases rx
    cases y with
    | non => cases ry; exact PySem.EqNone.ne_bool_none (fin_bl I q (by simp))
    | bl j => cases ry; exact ne_bool (fin_bl I q (congrArg not dec_bl))
    | str j => obtain ⟨t', rfl⟩ := ry; exact PySem.EqMixed.ne_bool_str (fin_bl I q (by simp))
    | _ => exact absurd (show false = true from hs) Bool.false_ne_true
  | int i =>
    obtain ⟨t, rfl⟩ := rx
    cases y with
    | non => cases ry; exact PySem.EqNone.ne_int_none (fin_bl I q (by simp))
    | int j => obtain ⟨t', rfl⟩ := ry; exact ne_int (fin_bl I q (congrArg not dec_int))
    | str j => obtain ⟨t', rfl⟩ := ry; exact PySem.EqMixed.ne_int_str (fin_bl I q (by simp))
    | _ => exact absurd (show false = true from hs) Bool.false_ne_true
  | str i =>
    obtain ⟨t, rfl⟩ := rx
    cases y with
    | non => cases ry; exact PySem.EqNone.ne_str_none (fin_bl I q (by simp))
    | bl j => cases ry; exact PySem.EqMixed.ne_str_bool (fin_bl I q (by simp))
    | int j => obtain ⟨t', rfl⟩ := ry; exact PySem.EqMixed.ne_str_int (fin_bl I q (by simp))
    | str j => obtain ⟨t', rfl⟩ := ry; exact ne_str (fin_bl I q (congrArg not dec_str))
    | _ => exact absurd (show false = true from hs) Bool.false_ne_true
  | byt i =>
    obtain ⟨t, rfl⟩ := rx
    cases y with
    | byt j => obtain ⟨t', rfl⟩ := ry; exact PySem.W.ne_bytes (fin_bl I q (congrArg not dec_byt))
    | _ => exact absurd (show false = true from hs) Bool.false_ne_true
  | _ => cases y <;> exact absurd (show false = true from hs) Bool.false_ne_true
theorem op_lt : OpR X (compareOp .Lt) (rI0 fun i j => .bl (decide (i < j))) := opB0 fun _ _ _ _ _ _ _ q => lt_int q
theorem op_gt : OpR X (compareOp .Gt) (rI0 fun i j => .bl (decide (j < i))) := opB0 fun _ _ _ _ _ _ _ q => gt_int q
theorem nomark (b : Expr) {op : CmpOp} (h : op ≠ .In := by decide) (h2 : op ≠ .NotIn := by decide) : behindInMarks op b = false := by
  have e1 : (op == CmpOp.In) = false := by cases op <;> first | rfl | exact absurd rfl h
  have e2 : (op == CmpOp.NotIn) = false := by cases op <;> first | rfl | exact absurd rfl h2
  cases b <;> simp [behindInMarks, e1, e2]
theorem pe_cmpR {op : CmpOp} {r : R2} (ho : OpR X (compareOp op) r) (ha : PE X a ta) (hb : PE X b tb) (hm : behindInMarks op b = false) : PE X (.Compare a [op] [b] pos) (tOp r ta tb) := by
  intro pins s σ H Q I h
  exact wpAny_Compare1 (binT ha hb I h fun v u s2 x y H2 I2 rx ry q => ho pins s2 σ H2 x y v u Q I2 rx ry q) hm
def tTest (t : TE) : TT := fun σ H Q => t σ H fun x H' => ∃ k, x = .bl k ∧ Q k H'
theorem pt_cmpR {op : CmpOp} {r : R2} (ho : OpR X (compareOp op) r) (ha : PE X a ta) (hb : PE X b tb) (hm : behindInMarks op b = false) : PT X (.Compare a [op] [b] pos) (tTest (tOp r ta tb)) := by
  intro pins s σ H Q I h
  refine wpAny_isTrue_Compare1 (thn (ha pins s σ H _ I h) fun v s1 ⟨x, H1, I1, r1, q1⟩ => thn (hb pins s1 σ H1 _ I1 q1) fun u s2 ⟨y, H2, I2, r2, q2⟩ =>
    thn (ho pins s2 σ H2 x y v u _ I2 r1 r2 q2) fun c s3 ⟨z, H3, I3, r3, k, e, q3⟩ => ?_) hm
  subst e
  cases r3
  exact wpAny_truthy_bool ⟨H3, I3, q3⟩
theorem line63 : (sizeLine : Nat) < 2 ^ 63 := by rw [sizeLine_eq]; decide
theorem vals1 {x : V} {us : List Value} (r : Vals [x] us) : ∃ u, us = [u] ∧ RelV x u := by
  cases r with
  | cons r1 r2 => cases r2; exact ⟨_, rfl, r1⟩
theorem vals2 {x y : V} {us : List Value} (r : Vals [x, y] us) : ∃ u w', us = [u, w'] ∧ RelV x u ∧ RelV y w' := by
  cases r with
  | cons r1 r2 =>
    cases r2 with
    | cons r3 r4 => cases r4; exact ⟨_, _, rfl, r1, r3⟩
theorem call_max2 (hc : X.calm = true) : CallR X (.builtin "max") (fun xs H Q => ∃ i j, xs = [.int i, .int j] ∧ Q (.int (if j > i then j else i)) H) := by
  intro pins s σ H xs us Q I r h
  obtain ⟨i, j, rfl, q⟩ := h
  obtain ⟨u, w', rfl, ⟨t, rfl⟩, ⟨t', rfl⟩⟩ := vals2 r
  refine max_two_ints (I.ok.hd hc) fun h' tk k => ⟨_, H, I.kept k, ?_, q⟩
  by_cases hj : j > i
  · rw [if_pos hj, if_pos hj]; exact ⟨_, rfl⟩
  · rw [if_neg hj, if_neg hj]; exact ⟨_, rfl⟩
theorem call_min2 (hc : X.calm = true) : CallR X (.builtin "min") (fun xs H Q => ∃ i j, xs = [.int i, .int j] ∧ Q (.int (if j < i then j else i)) H) := by
  intro pins s σ H xs us Q I r h
  obtain ⟨i, j, rfl, q⟩ := h
  obtain ⟨u, w', rfl, ⟨t, rfl⟩, ⟨t', rfl⟩⟩ := vals2 r
  refine min_two_ints (I.ok.hd hc) fun h' tk k => ⟨_, H, I.kept k, ?_, q⟩
  by_cases hj : j < i
  · rw [if_pos hj, if_pos hj]; exact ⟨_, rfl⟩
  · rw [if_neg hj, if_neg hj]; exact ⟨_, rfl⟩
end
end L2
namespace L2
open PySem PySem.Spec PyProof.Rows
structure ObjM (h : Heap) (x dx C : Addr) (mA : Str → Option Value) : Prop where
  obj : h.get? x = some (PySem.W.instObj C dx)
  ns : h.Ns1 dx mA
  ne : dx ≠ x
theorem lookIn_ns {h : Heap} {dx : Addr} {mA : Str → Option Value} (n : h.Ns1 dx mA) : ∃ od, h.get? dx = some od ∧ ∀ name, PySem.W.lookIn name od = some (mA name) := by
  obtain ⟨o, es, ep, ho, hd, hk, _, hm⟩ := n
  refine ⟨o, ho, fun name => ?_⟩
  have e := hm name
  unfold nsFind findBy at e
  rw [← Array.find?_toList] at e
  unfold PySem.W.lookIn
  rw [hd]
  dsimp only
  split
  · rename_i y q
    rw [q] at e
    exact congrArg some e
  · rename_i q
    rw [q] at e
    have a : es.toList.any (·.refKey) = false := by
      rw [List.any_eq_false]
      intro y hy
      obtain ⟨z, t, hkey⟩ := hk y (Array.mem_toList_iff.mp hy)
      simp [DictEntry.refKey, hkey]
    have a' : ¬ es.toList.any (·.refKey) = true := by rw [a]; exact Bool.false_ne_true
    rw [if_neg a']
    exact congrArg some e
theorem ObjM.look {h : Heap} {x dx C : Addr} {mA : Str → Option Value} (I : ObjM h x dx C mA) : ∃ od, PySem.W.InstAt h x (PySem.W.instObj C dx) C (some od) ∧ ∀ name, PySem.W.lookIn name od = some (mA name) :=
  let ⟨od, ho, hl⟩ := lookIn_ns I.ns
  ⟨od, ⟨I.obj, rfl, rfl, ho⟩, hl⟩
section
variable {P : Program} {w : World} {H H' : Hp} {h h' : Heap} {a C dx : Addr} {fs fs' : List (Str × V)}
theorem ins_get (hok : HOk P w H h) (e : H a = some (.ins C dx fs)) : ∃ mA, ObjM h a dx C mA ∧ (∀ f, RelO (fs.lookup f) (mA f)) ∧ PySem.Within mA (fs.map (·.1)) ∧ fs.length ≤ 1000 ∧ H dx = some (.own a) := by
  obtain ⟨d, z, ne, ob, mA, n, r, q⟩ := (show ObjOk P w H h a (.ins C dx fs) from hok a _ e)
  exact ⟨mA, ⟨ob, n, ne⟩, r, q, z, d⟩
end
structure Cls (K : PySem.W.Frag) (C : Addr) : Prop where
  pg : PySem.W.plainGet K C Str.empty = true
  hd : PySem.W.hasDictIn K C = true
  po : PySem.W.plainOver K C = true
  sa : PySem.W.findIn K (.ref C) "__setattr__" = some (some (.builtin "object.__setattr__"))
theorem Cls.get {K : PySem.W.Frag} {C : Addr} (c : Cls K C) (f : Str) : PySem.W.plainGet K C f = true := c.pg
section
variable {X : Cx} {pins : List (Addr × Obj)} {σ : St} {H : Hp} {s : Shared} {A : Around} {E : Value → Shared → Prop} {Q : Value → Shared → Prop} {c : Value} {b : Bool}
inductive TyOf (K : PySem.W.Frag) (H : Hp) : V → Value → Prop where
  | non : TyOf K H .non (.type "NoneType")
  | bl (x : Bool) : TyOf K H (.bl x) (.type "bool")
  | int (i : Int) : TyOf K H (.int i) (.type "int")
  | str (x : Str) : TyOf K H (.str x) (.type "str")
  | flt (x : UInt64) : TyOf K H (.flt x) (.type "float")
  | lst {a : Addr} {xs : List V} (e : H a = some (.lst xs)) : TyOf K H (.ref a) (.type "list")
  | frz {a : Addr} {o : Obj} {xs : List V} (e : H a = some (.frz o (.lst xs))) : TyOf K H (.ref a) (.type "list")
  | tup {a : Addr} {xs : List V} (e : H a = some (.tup xs)) : TyOf K H (.ref a) (.type "tuple")
  | dK {a : Addr} {kvs : List (Key × V)} (e : H a = some (.dK kvs)) : TyOf K H (.ref a) (.type "dict")
  | dT {a : Addr} {kvs : List (List Key × V)} (e : H a = some (.dT kvs)) : TyOf K H (.ref a) (.type "dict")
  | ins {a C dx : Addr} {fs : List (Str × V)} (e : H a = some (.ins C dx fs)) (cl : Cls K C) (ha : PySem.W.findIn K (.ref C) "__class__" = some (some (.builtin "object.__class__")))
      (hn : PySem.W.specialIn K (.builtin "object.__class__") "__get__" = some (some (.builtin "getset_descriptor.__get__"))) (htk : PySem.W.takesIn K (.builtin "object.__class__") = some true)
      (hm : PySem.W.mroIn K C (.type "object") = some true) : TyOf K H (.ref a) (.ref C)
end
end L2
namespace L2
open PySem PySem.Spec PyProof.Rows
structure Room (k : Nat) (A : Around) : Prop where
  hd : A.handled = none
  dp : A.depth + 3 * k + 5 < recursionLimit
  un : A.units + 16 * k + 200 < cLine
theorem Room.mono {j k : Nat} {A : Around} (r : Room k A) (h : j ≤ k) : Room j A := ⟨r.hd, by have := r.dp; omega, by have := r.un; omega⟩
theorem Room.deeper {k : Nat} {A : Around} (r : Room (k + 1) A) (env : Env) : Room k (A.deeper env) :=
  ⟨r.hd, by have := r.dp; show A.depth + 1 + 3 * k + 5 < _; omega, by have := r.un; show A.units + 3 + 16 * k + 200 < _; omega⟩
theorem Room.in1 {k : Nat} {A : Around} (r : Room (k + 1) A) : Room k A.in1 :=
  ⟨r.hd, by have := r.dp; show A.depth + 3 * k + 5 < _; omega, by have := r.un; show A.units + 1 + 16 * k + 200 < _; omega⟩
theorem Room.depth {k : Nat} {A : Around} (r : Room k A) : A.depth < recursionLimit := by have := r.dp; omega
theorem Room.units {k : Nat} {A : Around} (r : Room k A) : A.units + 64 < cLine := by have := r.un; omega
def tNil : TA := fun _ H Q => Q [] H
def tCons (ta : TE) (tr : TA) : TA := fun σ H Q => ta σ H fun x H1 => tr σ H1 fun xs H2 => Q (x :: xs) H2
section
variable {X : Cx} {e : Expr} {es : List Expr} {te : TE} {t : TA} {pos : Pos}
theorem pa_nil : PA X [] tNil := fun _ _ _ _ H Q I h => Calls.spliced_nil ⟨[], H, I, .nil, h⟩
theorem pa_cons (ha : PE X e te) (hr : PA X es t) (hs : starEach (e :: es) X.env = (false, eval e X.env) :: starEach es X.env := by rfl) : PA X (e :: es) (tCons te t) := by
  intro pos pins s σ H Q I h
  rw [hs]
  show wpAny _ _ (spliced ((false, eval e X.env) :: backTo pos (starEach es X.env))) _ _ s
  refine Calls.spliced_cons (thn (ha pins s σ H _ I h) fun u s1 ⟨x, H1, I1, r1, q1⟩ => ?_)
  exact thn (hr pos pins s1 σ H1 _ I1 q1) fun us s2 ⟨xs, H2, I2, r2, q2⟩ => ⟨x :: xs, H2, I2, .cons r1 r2, q2⟩
def tTup (t : TA) : TE := fun σ H Q => t σ H fun xs H1 => xs.length ≤ sizeLine ∧ ∀ p, H1 p = none → Q (.ref p) (upd H1 p (.tup xs))
def tLst (t : TA) : TE := fun σ H Q => t σ H fun xs H1 => xs.length ≤ sizeLine ∧ ∀ p, H1 p = none → Q (.ref p) (upd H1 p (.lst xs))
theorem pe_tup {x1} (h : PA X es t) : PE X (.Tuple es x1 pos) (tTup t) := by
  intro pins s σ H Q I hq
  refine wpAny_Tuple_spliced (thn (h pos pins s σ H _ I hq) fun us s1 ⟨xs, H1, I1, r, z, q⟩ => ⟨by rw [← r.length]; exact z, ?_⟩)
  have hf : H1 s1.heap.objs.size = none := I1.hok.fresh (Nat.le_refl _)
  refine ⟨.ref s1.heap.objs.size, upd H1 s1.heap.objs.size (.tup xs), I1.laid (t' := s1.toks) (fun b u e => Heap.get?_push_of_some _ e) (Nat.le_refl _) ?_, rfl, q _ hf⟩
  exact ⟨z, us, r, ⟨_, Heap.get?_push_size _ rfl, rfl, _, rfl⟩⟩
theorem pe_lst (h : PA X es t) : PE X (.List es pos) (tLst t) := by
  intro pins s σ H Q I hq
  refine wpAny_List_spliced (thn (h pos pins s σ H _ I hq) fun us s1 ⟨xs, H1, I1, r, z, q⟩ => ⟨by rw [← r.length]; exact z, ?_⟩)
  have hf : H1 s1.heap.objs.size = none := I1.hok.fresh (Nat.le_refl _)
  refine ⟨.ref s1.heap.objs.size, upd H1 s1.heap.objs.size (.lst xs), I1.laid (t' := s1.toks) (fun b u e => Heap.get?_push_of_some _ e) (Nat.le_refl _) ?_, rfl, q _ hf⟩
  exact ⟨z, us, 0, r, Heap.get?_push_size _ rfl⟩
end
abbrev Sp := List V → Hp → VK → XK → Prop
abbrev CXT := List Env → Hp → Shared → XK → Value → Shared → Prop
structure Env0 (P : Program) (w : World) (K : PySem.W.Frag) (mg : Str → Option Value) (base : Heap) (A : Around) (outer : List Env) (s : Shared) (H : Hp) : Prop where
  frames : A.frames = some outer
  mod : Mod K mg base
  bs : ∀ b o, base.get? b = some o → s.heap.get? b = some o ∧ H b = none
  bsz : base.objs.size ≤ s.heap.objs.size
  funs : s.heap.FunFrames base outer
  frf : ∀ b ∈ frs outer, H b = none
  hok : HOk P w H s.heap
  bare : AllBare s.gens
def CE (outer : List Env) (P : Program) (w : World) (H : Hp) (s : Shared) (Q : VK) (u : Value) (s' : Shared) : Prop :=
  ∃ v H', s'.os = s.os ∧ AllBare s'.gens ∧ Un (frs outer) [] H H' s.heap s'.heap ∧ HOk P w H' s'.heap ∧ RelV v u ∧ Q v H'
def CR (CX : CXT) (outer : List Env) (P : Program) (w : World) (H : Hp) (s : Shared) (Q : VK) (E : XK) (r : Result) (s' : Shared) : Prop :=
  match r with
  | .ok (.ret u) => CE outer P w H s Q u s'
  | .ok _ => False
  | .error e => CX outer H s E e s'
structure FnOk (P : Program) (w : World) (K : PySem.W.Frag) (mg : Str → Option Value) (base : Heap) (CX : CXT) (k : Nat) (f : Addr) (fd : FuncData) (ps : List Str) (sp : Sp) : Prop where
  len : ∀ vs H Q E, sp vs H Q E → vs.length = ps.length
  run : ∀ (A : Around) (outer : List Env) (s : Shared) (H : Hp) (args : Args) (us : List Value) (vs : List V) (Q : VK) (E : XK), Room k A → Env0 P w K mg base A outer s H → BindsTo s fd args (ps.zip us) → Vals vs us → sp vs H Q E →
    codeAny (model P w) A (.call (.ref f) args) (CR CX outer P w H s Q E) s
theorem FnOk.imp {P : Program} {w : World} {K : PySem.W.Frag} {mg : Str → Option Value} {base : Heap} {CX : CXT} {k : Nat} {f : Addr} {fd : FuncData} {ps : List Str} {sp sp' : Sp} (F : FnOk P w K mg base CX k f fd ps sp)
    (h : ∀ vs H Q E, sp' vs H Q E → sp vs H Q E) : FnOk P w K mg base CX k f fd ps sp' :=
  ⟨fun vs H Q E q => F.len vs H Q E (h _ _ _ _ q), fun A outer s H args us vs Q E hr he hb hv hs => F.run A outer s H args us vs Q E hr he hb hv (h _ _ _ _ hs)⟩
section
variable {X : Cx} {pins : List (Addr × Obj)} {σ : St} {H : Hp} {s s' : Shared}
theorem Inv.env0 (I : Inv X pins σ H s) : Env0 X.prog X.w X.K X.mg X.base X.A X.stack s H :=
  ⟨I.ok.frames, I.ok.mod, I.bs, Nat.le_trans I.ok.bsz I.sz, I.stack, I.stkFree, I.hok, I.bare⟩
theorem Inv.after {Q : VK} {u : Value} (I : Inv X pins σ H s) (h : CE X.stack X.prog X.w H s Q u s') : EP X pins σ Q u s' := by
  obtain ⟨v, H', os, bare, un, hok, r, q⟩ := h
  obtain ⟨hh, g, d, t, os'⟩ := s'
  obtain rfl : os' = s.os := os
  exact ⟨v, H', I.call (h' := hh) (g' := g) (d' := d) (t' := t) (ch := []) un hok bare (fun b z => absurd z (by simp)), r, q⟩
end
def tCall (sp : Sp) (dvs : List V) (E : XK) (t : TA) : TE := fun σ H Q => t σ H fun vs H1 => sp (vs ++ dvs) H1 Q E
def Binds (K : PySem.W.Frag) (fd : FuncData) (ps : List Str) (ds : List Value) : Prop :=
  ∀ (s : Shared) (us : List Value), K.In s.heap → (us ++ ds).length = ps.length → BindsTo s fd ⟨us, []⟩ (ps.zip (us ++ ds))
theorem Binds.all {K : PySem.W.Frag} {fd : FuncData} {ps : List Str} (h : ∀ us : List Value, us.length = ps.length → bindArgs fd ⟨us, []⟩ = pure (ps.zip us)) : Binds K fd ps [] := fun s us _ hl => by
  rw [List.append_nil] at hl ⊢
  exact .of_eq (h us hl)
def Passes (CX : CXT) (X : Cx) (E : XK) : Prop := ∀ (pins : List (Addr × Obj)) (σ : St) (H : Hp) (s : Shared) (e : Value) (s' : Shared), Inv X pins σ H s → CX X.stack H s E e s' → X.xe e s'
section
variable {X : Cx} {CX : CXT} {k : Nat} {f C : Addr} {fd : FuncData} {ps : List Str} {sp : Sp} {dvs : List V} {ds : List Value} {E : XK} {x m : Str} {p pos apos : Pos} {e o : Expr} {es : List Expr} {ta : TE} {t : TA}
theorem run_fn {pins : List (Addr × Obj)} {σ : St} {H : Hp} {s : Shared} {Q : VK} {us : List Value} {vs : List V} (F : FnOk X.prog X.w X.K X.mg X.base CX k f fd ps sp) (hr : Room k X.A) (hb : Binds X.K fd ps ds) (hd : Vals dvs ds) (hx : Passes CX X E)
    (I : Inv X pins σ H s) (r : Vals vs us) (h : sp (vs ++ dvs) H Q E) : wpAny (model X.prog X.w) X.A (call (.ref f) us) (EP X pins σ Q) X.xe s := by
  have r2 : Vals (vs ++ dvs) (us ++ ds) := r.append hd
  have hl : (us ++ ds).length = ps.length := by rw [← r2.length]; exact F.len _ _ _ _ h
  refine wpAny_call (codeAny_mono (F.run X.A X.stack s H ⟨us, []⟩ (us ++ ds) (vs ++ dvs) Q E hr I.env0 (hb s us I.kIn hl) r2 h) fun r s' hq => ?_)
  cases r with
  | error e => exact hx pins σ H s e s' I hq
  | ok fl =>
    cases fl with
    | ret u => exact I.after hq
    | next => exact False.elim hq
    | brk => exact False.elim hq
    | cont => exact False.elim hq
theorem pe_call (F : FnOk X.prog X.w X.K X.mg X.base CX k f fd ps sp) (hr : Room k X.A) (hg : Gl X x) (hm : X.mg x = some (.ref f)) (hk : PySem.W.keepIn X.K (.ref f) = true) (hb : Binds X.K fd ps ds) (hd : Vals dvs ds) (hx : Passes CX X E)
    (ha : PA X (e :: es) t) (hdb : (x == ("__debug__" : Str)) = false := by decide) (he : starEach (e :: es) X.env = (false, eval e X.env) :: starEach es X.env := by rfl) (hpl : (backTo pos (starEach es X.env)).any (·.1) = false := by rfl) :
    PE X (.Call (.Name x p) (e :: es) [] pos) (tCall sp dvs E t) := by
  intro pins s σ H Q I h
  refine wpAny_Call_Name_kw (ld_glob I hg hm ?_ hdb)
  refine PySem.W.callWith_K (h₀ := X.base) I.ok.mod.kin hk (thn (ha pos pins s σ H _ I h) fun us s1 ⟨vs, H1, I1, r, q⟩ => ⟨I1.kIn, ?_⟩) he hpl
  exact run_fn F hr hb hd hx I1 r q
end
def PK (X : Cx) (kws : List Keyword) (t : TA) : Prop :=
  ∀ (pos : Pos) (pins : List (Addr × Obj)) (s : Shared) (σ : St) (H : Hp) (Q : List V → Hp → Prop), Inv X pins σ H s → t σ H Q → wpAny (model X.prog X.w) X.A (evalAll ((backToKw pos (keywordEach kws X.env)).map (·.2))) (AP X pins σ Q) X.xe s
section
variable {X : Cx} {CX : CXT} {k : Nat} {f C : Addr} {fd : FuncData} {ps ks : List Str} {sp : Sp} {E : XK} {x m : Str} {p pos apos kpos : Pos} {e o : Expr} {es : List Expr} {kws : List Keyword} {te ta : TE} {t tk : TA} {nm : Option Str}
theorem pk_nil : PK X [] tNil := fun _ _ _ _ H Q I h => wpAny_evalAll_nil ⟨[], H, I, .nil, h⟩
theorem pk_cons (ha : PE X e te) (hr : PK X kws t) : PK X (⟨nm, e, kpos⟩ :: kws) (tCons te t) := by
  intro pos pins s σ H Q I h
  show wpAny _ _ (evalAll ((do let v ← eval e X.env; standAt pos; pure v) :: (backToKw pos (keywordEach kws X.env)).map (·.2))) _ _ s
  refine wpAny_evalAll_cons (wpAny_bind (thn (ha pins s σ H _ I h) fun u s1 ⟨x, H1, I1, r1, q1⟩ => wpAny_bind (wpAny_standAt (wpAny_pure ?_))))
  exact thn (hr pos pins s1 σ H1 _ I1 q1) fun us s2 ⟨xs, H2, I2, r2, q2⟩ => ⟨x :: xs, H2, I2, .cons r1 r2, q2⟩
end
structure FnScope (N P : List Str) (sc : Scope) : Prop where
  kind : sc.kind = .function
  co : sc.isCoroutine = false
  gen : sc.isGenerator = false
  nd : N.Nodup
  pre : N.take P.length = P
  par : ∀ x ∈ P, sc.names.lookup x = some .local ∨ sc.names.lookup x = some .cell
  nofree : ∀ y ∈ sc.names, y.2 ≠ .free
theorem bindL_out {kindOf : Str → Option NameKind} {x : Str} : ∀ {binds : List (Str × Value)} {m : Str → Option Value}, (∀ v, (x, v) ∉ binds) → bindL kindOf binds m x = m x
  | [], _, _ => rfl
  | (n, v) :: r, m, h => by
    unfold bindL
    rw [bindL_out fun w hw => h w (List.mem_cons_of_mem _ hw)]
    split
    · have : x ≠ n := by rintro rfl; exact h v List.mem_cons_self
      simp [this]
    · rfl
theorem bindC_out {kindOf : Str → Option NameKind} {x : Str} : ∀ {binds : List (Str × Value)} {m : Str → Option Value}, (∀ v, (x, v) ∉ binds) → bindC kindOf binds m x = m x
  | [], _, _ => rfl
  | (n, v) :: r, m, h => by
    unfold bindC
    rw [bindC_out fun w hw => h w (List.mem_cons_of_mem _ hw)]
    split
    · rfl
    · have : x ≠ n := by rintro rfl; exact h v List.mem_cons_self
      simp [this]
theorem bindL_get {kindOf : Str → Option NameKind} {x : Str} {v : Value} : ∀ {P : List Str} {vs : List Value} {i : Nat} {m : Str → Option Value}, P.Nodup → P[i]? = some x → vs[i]? = some v → kindOf x = some .local →
    bindL kindOf (P.zip vs) m x = some v
  | [], _, _, _, _, h, _, _ => by simp at h
  | _ :: _, [], _, _, _, _, h, _ => by simp at h
  | p :: P, w :: vs, 0, m, nd, h1, h2, hk => by
    simp at h1 h2; subst h1; subst h2
    show bindL kindOf ((p, w) :: P.zip vs) m p = _
    unfold bindL
    rw [bindL_out fun v hv => (List.nodup_cons.mp nd).1 (List.of_mem_zip hv).1, if_pos hk]
    simp
  | p :: P, w :: vs, i + 1, m, nd, h1, h2, hk => by
    show bindL kindOf ((p, w) :: P.zip vs) m x = _
    unfold bindL
    exact bindL_get (i := i) (List.nodup_cons.mp nd).2 (by simpa using h1) (by simpa using h2) hk
theorem bindC_get {kindOf : Str → Option NameKind} {x : Str} {v : Value} : ∀ {P : List Str} {vs : List Value} {i : Nat} {m : Str → Option Value}, P.Nodup → P[i]? = some x → vs[i]? = some v → kindOf x ≠ some .local →
    bindC kindOf (P.zip vs) m x = some v
  | [], _, _, _, _, h, _, _ => by simp at h
  | _ :: _, [], _, _, _, _, h, _ => by simp at h
  | p :: P, w :: vs, 0, m, nd, h1, h2, hk => by
    simp at h1 h2; subst h1; subst h2
    show bindC kindOf ((p, w) :: P.zip vs) m p = _
    unfold bindC
    rw [bindC_out fun v hv => (List.nodup_cons.mp nd).1 (List.of_mem_zip hv).1, if_neg hk]
    simp
  | p :: P, w :: vs, i + 1, m, nd, h1, h2, hk => by
    show bindC kindOf ((p, w) :: P.zip vs) m x = _
    unfold bindC
    exact bindC_get (i := i) (List.nodup_cons.mp nd).2 (by simpa using h1) (by simpa using h2) hk
def start (N : List Str) (vs : List V) : St := vs.map some ++ List.replicate (N.length - vs.length) none
def cxOf (CX : CXT) (P : Program) (w : World) (K : PySem.W.Frag) (mg : Str → Option Value) (base : Heap) (N : List Str) (qual : Str) (scope : Scope) (f : Addr) (cd : Value) (A : Around) (outer : List Env) (s : Shared) (H : Hp) (E : XK) : Cx where
  prog := P
  w := w
  K := K
  mg := mg
  base := base
  A := A.deeper (envOfC qual scope s.heap.objs.size f cd)
  N := N
  s₀ := s
  H₀ := H
  env := envOfC qual scope s.heap.objs.size f cd
  outer := outer
  stack := envOfC qual scope s.heap.objs.size f cd :: outer
  ex := []
  calm := true
  fn := fun _ => true
  pn := []
  xe := fun e s' => wpAny (model P w) (A.deeper (envOfC qual scope s.heap.objs.size f cd)) (leaving (envOfC qual scope s.heap.objs.size f cd) e) (fun _ s'' => CX outer H s E e s'') (fun e' s'' => CX outer H s E e' s'') s'
theorem cell_has {sc : Scope} {n : Nat} {x : Str} (h : sc.names.lookup x = some .cell) : ∃ c, (cellsFrom n sc.names []).lookup x = some c := by
  have q := PySem.W.cellsFrom_some sc.names n [] (.inl h)
  exact Option.isSome_iff_exists.mp q
theorem inv_start {CX : CXT} {P : Program} {w : World} {K : PySem.W.Frag} {mg : Str → Option Value} {base : Heap} {N ps : List Str} {qual : Str} {scope : Scope} {f : Addr} {cd : Value} {A : Around} {outer : List Env} {s s1 : Shared} {H : Hp} {E : XK} {us : List Value} {vs : List V}
    (S : FnScope N ps scope) (hd : A.handled = none) (e0 : Env0 P w K mg base A outer s H) (hl : vs.length = ps.length) (r : Vals vs us)
    (x : InCallC s s.heap.objs.size (bindL (envOfC qual scope s.heap.objs.size f cd).kindOf (ps.zip us) fun _ => none) (cellsFrom (s.heap.objs.size + 1) scope.names []) (bindC (envOfC qual scope s.heap.objs.size f cd).kindOf (ps.zip us) fun _ => none) s1) :
    Inv (cxOf CX P w K mg base N qual scope f cd A outer s H E) [] (start N vs) H s1 := by
  have hpl : ps.length ≤ N.length := by have := congrArg List.length S.pre; rw [List.length_take] at this; omega
  obtain ⟨h1, tk, rfl, hk⟩ := x.done
  have noA : ∀ b : Addr, b ∉ (cxOf CX P w K mg base N qual scope f cd A outer s H E).ex := fun b z => absurd (show b ∈ ([] : List Addr) from z) (by simp)
  refine ⟨⟨e0.mod, S.kind, rfl, rfl, Nat.le_refl _, fun y z c h1 h2 => ?_, fun y hy => ?_, fun y c _ h => ?_, fun _ => hd, Around.frames_deeper e0.frames, .inr ⟨rfl, rfl⟩, fun b z => absurd z (noA b), e0.bs, e0.bsz, fun b _ _ => noA b, fun b z => absurd z (noA b), e0.funs, e0.frf⟩,
    rfl, e0.bare, Un.kept hk, ⟨_, x.toInCall.ns, fun i y v h1 h2 h3 => ?_⟩, fun y c h => ⟨_, x.cell y c h⟩, e0.hok.fresh (Nat.le_refl _), fun y c h => ?_, fun p hp => absurd (show p ∈ ([] : List (Addr × Obj)) from hp) (by simp), e0.hok.kept hk, ?_⟩
  · exact name_of_addr x.apart (PySem.mem_of_lookup h1) (PySem.mem_of_lookup h2)
  · have hy : scope.names.lookup y = some .cell ∨ scope.names.lookup y = some .free := hy
    rcases hy with hy | hy
    · exact cell_has hy
    · exact absurd rfl (S.nofree _ (PySem.mem_of_lookup hy))
  · exact Nat.le_of_lt (x.above y c (PySem.mem_of_lookup h))
  · have hi : i < vs.length := by
      unfold start at h2
      by_cases hi : i < vs.length
      · exact hi
      · rw [List.getElem?_append_right (by simpa using hi)] at h2
        rw [List.getElem?_replicate] at h2
        split at h2 <;> cases h2
    have ha : vs[i]? = some v := by
      unfold start at h2
      rw [List.getElem?_append_left (by simpa using hi), List.getElem?_map] at h2
      cases e : vs[i]? with
      | none => rw [e] at h2; cases h2
      | some a => rw [e] at h2; cases h2; rfl
    obtain ⟨u, hu, rv⟩ := r.get ha
    have hp : ps[i]? = some y := by
      rw [← S.pre, List.getElem?_take_of_lt (by omega)]; exact h1
    have ndP : ps.Nodup := by rw [← S.pre]; exact S.nd.sublist (List.take_sublist _ _)
    refine ⟨u, rv, ?_⟩
    rcases S.par y (List.mem_of_getElem? hp) with k | k
    · exact .inl ⟨k, bindL_get ndP hp hu k⟩
    · obtain ⟨c, e⟩ := cell_has (n := s.heap.objs.size + 1) k
      refine .inr ⟨.inl k, c, e, ?_⟩
      have q := x.cell y c e
      rw [bindC_get ndP hp hu (by show scope.names.lookup y ≠ _; rw [k]; decide)] at q
      exact q
  · exact e0.hok.fresh (Nat.le_of_lt (x.above y c (PySem.mem_of_lookup h)))
  · unfold start
    show _ = N.length
    rw [List.length_append, List.length_map, List.length_replicate]
    omega
theorem fn_of {CX : CXT} {P : Program} {w : World} {K : PySem.W.Frag} {mg : Str → Option Value} {base : Heap} {k : Nat} {f : Addr} {name qual : Str} {params : Arguments} {body : List Stmt} {scope : Scope} {dV kV doc pm cdv ct oc : Value} {an od : Option Addr}
    {osl : Array (Option Value)} {N ps : List Str} {sp : Sp} (lk : K.lookup f = some ⟨oc, od, .func (PySem.W.fnOf name qual params body scope dV kV doc pm an cdv ct), osl⟩) (hcd : PySem.W.codeIn K cdv qual = true) (S : FnScope N ps scope)
    (len : ∀ vs H Q E, sp vs H Q E → vs.length = ps.length)
    (hbody : ∀ (A : Around) (outer : List Env) (s : Shared) (H : Hp) (vs : List V) (Q : VK) (E : XK), Room k (A.deeper (envOfC qual scope s.heap.objs.size f cdv)) → sp vs H Q E →
      ∃ t, PSs (cxOf CX P w K mg base N qual scope f cdv A outer s H E) body t ∧ t { nx := fun _ H' => Q .non H', rt := Q } (start N vs) H) :
    FnOk P w K mg base CX (k + 1) f (PySem.W.fnOf name qual params body scope dV kV doc pm an cdv ct) ps sp := by
  refine ⟨len, fun A outer s H args us vs Q E hr e0 hb r hsp => ?_⟩
  have hl := len _ _ _ _ hsp
  have KX : K.In s.heap := e0.mod.kin.keeps fun b o e => (e0.bs b o e).1
  have lim : s.heap.NoLimit := e0.mod.nolimit.keeps fun b o e => (e0.bs b o e).1
  have hkind : ∀ y ∈ ps.zip us, scope.names.lookup y.1 = some .local ∨ (scope.names.lookup y.1 = some .cell ∧ ((cellsFrom (s.heap.objs.size + 1) scope.names []).lookup y.1).isSome = true) := fun ⟨n, v⟩ hy => by
    rcases S.par n (List.of_mem_zip hy).1 with q | q
    · exact .inl q
    · exact .inr ⟨q, PySem.W.cellsFrom_some _ _ _ (.inl q)⟩
  refine codeAny_call_function hr.depth (KX _ _ lk) rfl S.co S.gen rfl (PySem.W.codeRec_of KX hcd) (hb _ _ _ _ ?_)
  refine wpAny_newFunctionEnv_cells S.kind hkind fun env he s1 x => ?_
  subst he
  refine ⟨lim.keeps x.toInCall.keep, codeAny_func ?_⟩
  obtain ⟨t, ht, hq⟩ := hbody A outer s H vs Q E (hr.deeper _) hsp
  have I : Inv (cxOf CX P w K mg base N qual scope f cdv A outer s H E) [] (start N vs) H s1 := inv_start S hr.hd e0 hl r x
  refine wpAny_mono (ht [] s1 (start N vs) H _ I hq) (fun fl s' hs => ?_) fun e s' hs => hs
  have fin : ∀ {σ' : St} {H' : Hp} {v : V} {u : Value}, Inv (cxOf CX P w K mg base N qual scope f cdv A outer s H E) [] σ' H' s' → RelV v u → Q v H' → CE outer P w H s Q u s' :=
    fun {σ' H' v u} J rv q => ⟨v, H', J.os, J.bare, J.base, J.hok, rv, q⟩
  cases fl with
  | ret u =>
    obtain ⟨v, σ', H', J, rv, q⟩ := hs
    exact fin J rv q
  | next =>
    obtain ⟨σ', H', J, q⟩ := hs
    exact fin (v := V.non) (u := Value.none) J rfl q
  | brk =>
    obtain ⟨_, _, _, q⟩ := hs
    exact False.elim q
  | cont =>
    obtain ⟨_, _, _, q⟩ := hs
    exact False.elim q
end L2
namespace L2
open PySem PySem.Spec PyProof.Rows
section
variable {X : Cx} {x : Str} {p pos : Pos} {e : Expr} {es : List Expr} {t : TA} {id T : String} {r : List V → Hp → VK → Prop}
def tCB (r : List V → Hp → VK → Prop) (t : TA) : TE := fun σ H Q => t σ H fun vs H1 => r vs H1 Q
theorem pe_callB (hc : CallR X (.builtin id) r) (hg : Gl X x) (hm : X.mg x = none) (hv : bootBuiltins x = some (.builtin id)) (ha : PA X (e :: es) t) (hn : x ≠ "__name__" := by decide) (hdb : (x == ("__debug__" : Str)) = false := by decide)
    (he : starEach (e :: es) X.env = (false, eval e X.env) :: starEach es X.env := by rfl) (hpl : (backTo pos (starEach es X.env)).any (·.1) = false := by rfl) : PE X (.Call (.Name x p) (e :: es) [] pos) (tCB r t) := by
  intro pins s σ H Q I h
  refine wpAny_Call_Name_kw (ld_blt I hg hm hv ?_ hn hdb)
  exact PyProof.Rows.callWith_builtin1 (thn (ha pos pins s σ H _ I h) fun us s1 ⟨vs, H1, I1, r1, q1⟩ => hc pins s1 σ H1 vs us Q I1 r1 q1) he hpl
theorem pe_callTy (hc : CallR X (.type T) r) (hg : Gl X x) (hm : X.mg x = none) (hv : bootBuiltins x = some (.type T)) (ha : PA X (e :: es) t) (hn : x ≠ "__name__" := by decide) (hdb : (x == ("__debug__" : Str)) = false := by decide)
    (he : starEach (e :: es) X.env = (false, eval e X.env) :: starEach es X.env := by rfl) (hpl : (backTo pos (starEach es X.env)).any (·.1) = false := by rfl) : PE X (.Call (.Name x p) (e :: es) [] pos) (tCB r t) := by
  intro pins s σ H Q I h
  refine wpAny_Call_Name_kw (ld_blt I hg hm hv ?_ hn hdb)
  exact PyProof.Rows.callWith_type1 (thn (ha pos pins s σ H _ I h) fun us s1 ⟨vs, H1, I1, r1, q1⟩ => hc pins s1 σ H1 vs us Q I1 r1 q1) he hpl
end
end L2
namespace HT
open PySem PyProof.Rows
section
variable {prog : Program} {w : World} {A : Around} {E : Value → Shared → Prop} {s : Shared}
def sIx (n d : Nat) : Option Int → Nat
  | none => d
  | some v => if v < 0 then (v + (n : Int)).toNat else min v.toNat n
theorem sIx_none (n d : Nat) : sIx n d none = d := rfl
theorem sIx_nat (n d k : Nat) : sIx n d (some (k : Int)) = min k n := by
  show (if (k : Int) < 0 then ((k : Int) + (n : Int)).toNat else min (k : Int).toNat n) = min k n
  rw [if_neg (by omega), Int.toNat_natCast]
end
end HT
namespace L2
open PySem PySem.Spec PyProof.Rows
abbrev TO := St → Hp → (Option Int → Hp → Prop) → Prop
def PO (X : Cx) (e : Option Expr) (t : TO) : Prop :=
  ∀ (pins : List (Addr × Obj)) (s : Shared) (σ : St) (H : Hp) (Q : Option Int → Hp → Prop), Inv X pins σ H s → t σ H Q →
    wpAny (model X.prog X.w) X.A (evalPart e X.env) (fun u s' => ∃ o H', Inv X pins σ H' s' ∧ IsPart u o ∧ Q o H') X.xe s
def tNoPart : TO := fun _ H Q => Q none H
def tPart (t : TE) : TO := fun σ H Q => t σ H fun x H1 => ∃ i, x = .int i ∧ Q (some i) H1
section
variable {X : Cx} {e : Expr} {te : TE} {lo hi : Option Expr} {tl th : TO} {pos p2 : Pos}
theorem po_none : PO X none tNoPart := by
  intro pins s σ H Q I h
  rw [evalPart_none]
  exact wpAny_pure ⟨none, H, I, .none, h⟩
theorem po_some (h : PE X e te) : PO X (some e) (tPart te) := by
  intro pins s σ H Q I hw
  rw [evalPart_some]
  refine thn (h pins s σ H _ I hw) fun u s1 ⟨x, H1, I1, r1, q1⟩ => ?_
  obtain ⟨i, rfl, q⟩ := q1
  obtain ⟨t, rfl⟩ := r1
  exact ⟨some i, H1, I1, .int i t, q⟩
def SlR (X : Cx) (r : V → Option Int → Option Int → Hp → VK → Prop) : Prop :=
  ∀ (pins : List (Addr × Obj)) (s : Shared) (σ : St) (H : Hp) (x : V) (v vl vu : Value) (lo hi : Option Int) (sl : Addr) (Q : VK), Inv X pins σ H s → RelV x v → s.heap.IsSliceOf sl vl vu .none → IsPart vl lo → IsPart vu hi → r x lo hi H Q →
    ∃ T id, typeLookup (.type T) "__getitem__" = pure (some (.builtin id)) ∧ s.TypeIs v T ∧ wpAny (model X.prog X.w) X.A (getItem v (.ref sl)) (EP X pins σ Q) X.xe s
def tSl (r : V → Option Int → Option Int → Hp → VK → Prop) (te : TE) (tl th : TO) : TE := fun σ H Q => te σ H fun x H1 => tl σ H1 fun l H2 => th σ H2 fun u H3 => r x l u H3 Q
theorem pe_slice {r : V → Option Int → Option Int → Hp → VK → Prop} (hr : SlR X r) (he : PE X e te) (hl : PO X lo tl) (hu : PO X hi th) : PE X (.Subscript e (.Slice lo hi none p2) pos) (tSl r te tl th) := by
  intro pins s σ H Q I h
  refine Subscript_ (thn (he pins s σ H _ I h) fun v s1 ⟨x, H1, I1, r1, q1⟩ => ?_)
  refine wpAny_Slice (thn (hl pins s1 σ H1 _ I1 q1) fun vl s2 ⟨l, H2, I2, pl, q2⟩ => thn (hu pins s2 σ H2 _ I2 q2) fun vu s3 ⟨u, H3, I3, pu, q3⟩ => ?_)
  rw [evalPart_none]
  refine wpAny_pure ?_
  have I4 : Inv X pins σ H3 { s3 with heap := s3.heap.push { cls := .type "slice", data := .fields #[vl, vu, .none] } } := I3.kept (t' := s3.toks) fun b ob q => Heap.get?_push_of_some _ q
  obtain ⟨T, id, hT, ht, hg⟩ := hr pins { s3 with heap := s3.heap.push { cls := .type "slice", data := .fields #[vl, vu, .none] } } σ H3 x v vl vu l u s3.heap.objs.size Q I4 r1 (Heap.IsSliceOf.new ..) pl pu q3
  show wpAny (model X.prog X.w) X.A (subscriptTail e (.Slice lo hi none p2) v (.ref s3.heap.objs.size)) (EP X pins σ Q) X.xe { s3 with heap := s3.heap.push { cls := .type "slice", data := .fields #[vl, vu, .none] } }
  exact tail_any (ops := [.ref s3.heap.objs.size, v]) ht hT hg (by with_unfolding_all rfl)
def cutV (xs : List V) (lo hi : Option Int) : List V := (xs.drop (HT.sIx xs.length 0 lo)).take (HT.sIx xs.length xs.length hi - HT.sIx xs.length 0 lo)
theorem cutV_length (xs : List V) (lo hi : Option Int) : (cutV xs lo hi).length ≤ xs.length := by
  unfold cutV
  rw [List.length_take, List.length_drop]
  omega
end
end L2
namespace L2
open PySem PySem.Spec PyProof.Rows
def ixN (n : Nat) (i : Int) : Option Nat := if 0 ≤ i then (if i < n then some i.toNat else none) else if -(n : Int) ≤ i then some (i + n).toNat else none
def atI {α : Type} (xs : List α) (i : Int) : Option α := (ixN xs.length i).bind fun j => xs[j]?
theorem ixN_seq {n : Nat} {i : Int} {j : Nat} (h : ixN n i = some j) : seqIndex? i n = some j ∧ j < n ∧ -(n : Int) ≤ i ∧ i < n := by
  unfold ixN at h
  by_cases h0 : 0 ≤ i
  · rw [if_pos h0] at h
    by_cases h1 : i < n
    · rw [if_pos h1] at h
      have e : i.toNat = j := Option.some.inj h
      exact ⟨by rw [seqIndex_of h0 h1, e], by omega, by omega, h1⟩
    · rw [if_neg h1] at h; cases h
  · rw [if_neg h0] at h
    by_cases h1 : -(n : Int) ≤ i
    · rw [if_pos h1] at h
      have e : (i + n).toNat = j := Option.some.inj h
      exact ⟨by rw [seqIndex_neg (by omega) h1, e], by omega, h1, by omega⟩
    · rw [if_neg h1] at h; cases h
theorem atI_get {α : Type} {xs : List α} {i : Int} {v : α} (h : atI xs i = some v) : ∃ j, seqIndex? i xs.length = some j ∧ xs[j]? = some v ∧ j < xs.length ∧ -(xs.length : Int) ≤ i ∧ i < xs.length := by
  unfold atI at h
  cases e : ixN xs.length i with
  | none => rw [e] at h; cases h
  | some j =>
    rw [e] at h
    obtain ⟨h1, h2, h3, h4⟩ := ixN_seq e
    exact ⟨j, h1, h, h2, h3, h4⟩
theorem atI_nat {α : Type} {xs : List α} {j : Nat} {v : α} (h : xs[j]? = some v) : atI xs (j : Int) = some v := by
  have hj : j < xs.length := (List.getElem?_eq_some_iff.mp h).1
  have e : ixN xs.length (j : Int) = some j := by
    unfold ixN
    rw [if_pos (by omega), if_pos (by omega)]; simp
  unfold atI; rw [e]; exact h
theorem atI_last {α : Type} (xs : List α) (v : α) : atI (xs ++ [v]) (-1) = some v := by
  have hl : (xs ++ [v]).length = xs.length + 1 := by simp
  have e : ixN (xs ++ [v]).length (-1) = some xs.length := by
    unfold ixN
    rw [hl, if_neg (by decide), if_pos (by omega)]
    congr 1
    omega
  unfold atI
  rw [e]
  show (xs ++ [v])[xs.length]? = some v
  simp
def PlainIx (b : Expr) : Prop := ∀ o i, subscripted b false o i = operate [o, i] (getItem o i)
def IxR (X : Cx) (r : R2) : Prop :=
  ∀ (value slice : Expr) (pins : List (Addr × Obj)) (s : Shared) (σ : St) (H : Hp) (x y : V) (v u : Value) (Q : VK), Inv X pins σ H s → RelV x v → RelV y u → r x y H Q →
    subscripted slice false v u = operate [v, u] (getItem v u) → wpAny (model X.prog X.w) X.A (subscriptTail value slice v u) (EP X pins σ Q) X.xe s
def MtR (X : Cx) (id : String) (r : V → List V → Hp → VK → Prop) : Prop :=
  ∀ (pins : List (Addr × Obj)) (s : Shared) (σ : St) (H : Hp) (x : V) (xs : List V) (v : Value) (us : List Value) (Q : VK), Inv X pins σ H s → RelV x v → Vals xs us → r x xs H Q →
    wpAny (model X.prog X.w) X.A (call (.builtin id) (v :: us)) (EP X pins σ Q) X.xe s
section
variable {X : Cx} {a b : Expr} {ta tb : TE} {pos : Pos}
theorem pe_ix {r : R2} (hr : IxR X r) (ha : PE X a ta) (hb : PE X b tb) (hs : PlainIx b) : PE X (.Subscript a b pos) (tOp r ta tb) := by
  intro pins s σ H Q I h
  exact Subscript_ (binT ha hb I h fun v u s2 x y H2 I2 rx ry q => hr a b pins s2 σ H2 x y v u Q I2 rx ry q (hs _ _))
def rIxL (K : PySem.W.Frag) : R2 := fun x y H Q => ∃ p xs i v, x = .ref p ∧ y = .int i ∧ SqL K H p xs ∧ atI xs i = some v ∧ Q v H
def rIxT (K : PySem.W.Frag) : R2 := fun x y H Q => ∃ p xs i v, x = .ref p ∧ y = .int i ∧ SqT K H p xs ∧ atI xs i = some v ∧ Q v H
theorem ix_list : IxR X (rIxL X.K) := by
  intro value slice pins s σ H x y v u Q I rx ry h hs
  obtain ⟨p, xs, i, z, rfl, rfl, hq, he, q⟩ := h
  cases rx
  obtain ⟨t, rfl⟩ := ry
  obtain ⟨its, r, pl, hz⟩ := I.list hq
  obtain ⟨j, h1, h2, h3, h4, h5⟩ := atI_get he
  obtain ⟨w, ew, rw'⟩ := r.get h2
  have hl := r.length
  have hn := line63
  have fin : EP X pins σ Q w s := ⟨z, H, I, rw', q⟩
  by_cases h0 : 0 ≤ i
  · have hj : i.toNat = j := by
      rw [seqIndex_of h0 h5] at h1
      exact Option.some.inj h1
    exact item_listR pl.isList h0 (by omega) (by rw [hj]; simpa using ew) fin hs
  · have hj : (i + (its.toArray.size : Int)).toNat = j := by
      rw [seqIndex_neg (by omega) h4] at h1
      rw [List.size_toArray, ← hl]
      exact Option.some.inj h1
    exact subscriptTail_builtinR (x := w) pl.isList.typeIs slot_list_getitem.lookup
      (wpAny_getItem_list_neg (Q := fun r s' => r = w ∧ EP X pins σ Q r s') pl.isList (by omega) (by rw [List.size_toArray] <;> omega) (by omega) (by rw [hj]; simpa using ew) ⟨rfl, fin⟩) hs
theorem ix_tup : IxR X (rIxT X.K) := by
  intro value slice pins s σ H x y v u Q I rx ry h hs
  obtain ⟨p, xs, i, z, rfl, rfl, hq, he, q⟩ := h
  cases rx
  obtain ⟨t, rfl⟩ := ry
  obtain ⟨its, r, pl, hz⟩ := I.tuple hq
  obtain ⟨j, h1, h2, h3, h4, h5⟩ := atI_get he
  obtain ⟨w, ew, rw'⟩ := r.get h2
  have hl := r.length
  have hn := line63
  have fin : EP X pins σ Q w s := ⟨z, H, I, rw', q⟩
  exact subscriptTail_builtinR (x := w) pl.typeIs slot_tuple_getitem.lookup
    (getItem_tuple (j := j) (Q := fun r s' => r = w ∧ EP X pins σ Q r s') pl (by omega) (by omega) (by rw [List.size_toArray, ← hl]; exact h1) (by simpa using ew) ⟨rfl, fin⟩) hs
theorem mapSeq_set (its : List Value) (n j : Nat) (u : Value) : Obj.mapSeq (·.setIfInBounds j u) { cls := .type "list", data := .seq its.toArray n } = { cls := .type "list", data := .seq (its.set j u).toArray n } := by
  simp [Obj.mapSeq]
theorem Inv.lst {pins : List (Addr × Obj)} {σ : St} {H : Hp} {s : Shared} {p : Addr} {xs : List V} (I : Inv X pins σ H s) (h : H p = some (.lst xs)) :
    ∃ (its : List Value) (n : Nat), Vals xs its ∧ s.heap.get? p = some { cls := .type "list", data := .seq its.toArray n } ∧ xs.length ≤ sizeLine := by
  obtain ⟨z, its, n, r, e⟩ := I.hok p _ h
  exact ⟨its, n, r, e, z⟩
theorem Inv.lstUpd {pins : List (Addr × Obj)} {σ : St} {H : Hp} {s : Shared} {p : Addr} {xs ys : List V} {its its' : List Value} {n n' : Nat} {f : Obj → Obj} (I : Inv X pins σ H s) (h : H p = some (.lst xs))
    (ho : s.heap.get? p = some { cls := .type "list", data := .seq its.toArray n }) (hf : f { cls := .type "list", data := .seq its.toArray n } = { cls := .type "list", data := .seq its'.toArray n' }) (r : Vals ys its') (hz : ys.length ≤ sizeLine) (t : Nat) :
    Inv X pins σ (upd H p (.lst ys)) { s with heap := s.heap.update p f, toks := t } := by
  have e : (s.heap.update p f).get? p = some { cls := .type "list", data := .seq its'.toArray n' } := by
    rw [Heap.get?_update_self f ho (by rw [hf] <;> rfl), hf]
  refine I.write (x := p) (e := p) (by rw [h]; trivial) (.inl rfl) (fun b u hb q => (Heap.get?_update_other _ _ (Ne.symm hb)).trans q) ⟨_, e⟩ ?_
  exact ⟨hz, its', n', r, e⟩
def rSetL : V → V → V → Hp → (Hp → Prop) → Prop := fun o i v H Q => ∃ p xs k j, o = .ref p ∧ i = .int k ∧ H p = some (.lst xs) ∧ ixN xs.length k = some j ∧ Q (upd H p (.lst (xs.set j v)))
theorem set_list : PSet X rSetL := by
  intro pins s σ H o i v ov iv u Q I ro ri rv h
  obtain ⟨p, xs, k, j, rfl, rfl, hp, hj, q⟩ := h
  cases ro
  obtain ⟨t, rfl⟩ := ri
  obtain ⟨its, n, r, ho, hz⟩ := I.lst hp
  obtain ⟨h1, h2, h3, h4⟩ := ixN_seq hj
  have hl := r.length
  have hn := line63
  have I' : Inv X pins σ (upd H p (.lst (xs.set j v))) { s with heap := s.heap.update p (Obj.mapSeq (·.setIfInBounds j u)) } :=
    I.lstUpd hp ho (mapSeq_set its n j u) (r.set rv j) (by rw [List.length_set]; exact hz) s.toks
  by_cases h0 : 0 ≤ k
  · have hk : k.toNat = j := by
      rw [seqIndex_of h0 h4] at h1
      exact Option.some.inj h1
    exact PySem.W.ki_setAt ho h0 (by omega) (by rw [List.size_toArray, ← hl]; exact h4) (by rw [hk]; exact ⟨_, I', q⟩)
  · have hk : (k + (its.toArray.size : Int)).toNat = j := by
      rw [seqIndex_neg (by omega) h3] at h1
      rw [List.size_toArray, ← hl]
      exact Option.some.inj h1
    exact PySem.W.ki_setBack ho (by omega) (by rw [List.size_toArray, ← hl]; exact h3) (by omega) (by rw [hk]; exact ⟨_, I', q⟩)
theorem slice_bounds (lo hi : Option Int) (n : Nat) : (sliceBounds lo hi none n).1 = ((HT.sIx n 0 lo : Nat) : Int) ∧ (sliceBounds lo hi none n).2.1 = ((HT.sIx n n hi : Nat) : Int) ∧ (sliceBounds lo hi none n).2.2 = 1 := by
  refine ⟨?_, ?_, rfl⟩
  · cases lo with
    | none => simp [sliceBounds, HT.sIx]
    | some i =>
      simp only [sliceBounds, HT.sIx, Option.getD_none, show (1 : Int) > 0 by decide, if_true]
      by_cases h : i < 0
      · simp only [h, if_true] <;> omega
      · simp only [h, if_false] <;> omega
  · cases hi with
    | none => simp [sliceBounds, HT.sIx]
    | some i =>
      simp only [sliceBounds, HT.sIx, Option.getD_none, show (1 : Int) > 0 by decide, if_true]
      by_cases h : i < 0
      · simp only [h, if_true] <;> omega
      · simp only [h, if_false] <;> omega
theorem slicePick_cut (its : List Value) (lo hi : Option Int) : slicePick its.toArray lo hi none = ((its.drop (HT.sIx its.length 0 lo)).take (HT.sIx its.length its.length hi - HT.sIx its.length 0 lo)).toArray := by
  obtain ⟨h1, h2, h3⟩ := slice_bounds lo hi its.toArray.size
  unfold slicePick
  rw [h1, h2, h3]
  simp only [sliceRange_one, pick_run, List.size_toArray] <;> rfl
def rSlL (K : PySem.W.Frag) : V → Option Int → Option Int → Hp → VK → Prop := fun x lo hi H Q => ∃ a xs, x = .ref a ∧ SqL K H a xs ∧ ∀ p, H p = none → Q (.ref p) (upd H p (.lst (cutV xs lo hi)))
theorem sl_list : SlR X (rSlL X.K) := by
  intro pins s σ H x v vl vu lo hi sl Q I rx hs pl pu h
  obtain ⟨a, xs, rfl, hx, q⟩ := h
  cases rx
  obtain ⟨its, r, ht, hz⟩ := I.list hx
  have hlen := r.length
  refine ⟨"list", _, slot_list_getitem.lookup, ht.isList.typeIs, ?_⟩
  refine wpAny_getItem_list_slice ht.isList hs pl pu .none (by simp) ?_ (by rw [List.size_toArray] <;> omega)
  rw [slicePick_cut, ← hlen]
  refine ⟨.ref s.heap.objs.size, _, I.laid (t' := s.toks) (o := .lst (cutV xs lo hi)) (fun b ob q => Heap.get?_push_of_some _ q) (Nat.le_refl _) ?_, rfl, q _ (I.hok.fresh (Nat.le_refl _))⟩
  exact ⟨Nat.le_trans (cutV_length xs lo hi) hz, _, 0, (r.drop (HT.sIx xs.length 0 lo)).take (HT.sIx xs.length xs.length hi - HT.sIx xs.length 0 lo), Heap.get?_push_size _ rfl⟩
def flatV : V → Bool
  | .non => true
  | .bl _ => true
  | .int _ => true
  | .str _ => true
  | _ => false
def eqV : V → V → Bool
  | .non, .non => true
  | .bl a, .bl b => a == b
  | .bl a, .int b => (if a then 1 else 0) == b
  | .int a, .bl b => a == (if b then 1 else 0)
  | .int a, .int b => a == b
  | .str a, .str b => a == b
  | _, _ => false
theorem eqAt_V {A : Around} {s : Shared} {y x : V} {u v : Value} (ry : RelV y u) (rx : RelV x v) (fy : flatV y = true) (fx : flatV x = true) : SeqAt.EqAt A s u v (eqV y x) := by
  cases y with
  | non =>
    cases ry
    cases x with
    | non => cases rx; exact SeqAt.EqAt.same _
    | bl b => cases rx; exact SeqAt.EqAt.none_bool b
    | int b => obtain ⟨t, rfl⟩ := rx; exact SeqAt.EqAt.none_int b t
    | str b => obtain ⟨t, rfl⟩ := rx; exact SeqAt.EqAt.none_str b t
    | _ => exact absurd (show false = true from fx) Bool.false_ne_true
  | bl a =>
    cases ry
    cases x with
    | non => cases rx; exact SeqAt.EqAt.bool_none a
    | bl b => cases rx; exact SeqAt.EqAt.bool_bool a b
    | int b => obtain ⟨t, rfl⟩ := rx; exact SeqAt.EqAt.bool_int a b t
    | str b => obtain ⟨t, rfl⟩ := rx; exact SeqAt.EqAt.bool_str a b t
    | _ => exact absurd (show false = true from fx) Bool.false_ne_true
  | int a =>
    obtain ⟨t', rfl⟩ := ry
    cases x with
    | non => cases rx; exact SeqAt.EqAt.int_none a t'
    | bl b => cases rx; exact SeqAt.EqAt.int_bool a t' b
    | int b => obtain ⟨t, rfl⟩ := rx; exact SeqAt.EqAt.int_int a t' b t
    | str b => obtain ⟨t, rfl⟩ := rx; exact SeqAt.EqAt.int_str a t' b t
    | _ => exact absurd (show false = true from fx) Bool.false_ne_true
  | str a =>
    obtain ⟨t', rfl⟩ := ry
    cases x with
    | non => cases rx; exact SeqAt.EqAt.str_none a t'
    | bl b => cases rx; exact SeqAt.EqAt.str_bool a t' b
    | int b => obtain ⟨t, rfl⟩ := rx; exact SeqAt.EqAt.str_int a t' b t
    | str b => obtain ⟨t, rfl⟩ := rx; exact SeqAt.EqAt.str_str a t' b t
    | _ => exact absurd (show false = true from fx) Bool.false_ne_true
  | _ => exact absurd (show false = true from fy) Bool.false_ne_true
theorem call_len_seq : CallR X (.builtin "len") (fun xs H Q => ∃ p ys, xs = [.ref p] ∧ (SqL X.K H p ys ∨ SqT X.K H p ys) ∧ Q (.int ys.length) H) := by
  intro pins s σ H xs us Q I r h
  obtain ⟨p, ys, rfl, hq, q⟩ := h
  obtain ⟨u, rfl, rx⟩ := vals1 r
  cases rx
  have hn := line63
  rcases hq with hq | hq
  · obtain ⟨its, r', pl, hz⟩ := I.list hq
    have hlen := r'.length
    exact Calls.call_len_list pl.isList (by simp only [List.size_toArray] <;> omega) ⟨.int ys.length, H, I.tok _, ⟨s.toks + 1, by rw [List.size_toArray, hlen]⟩, q⟩
  · obtain ⟨its, r', pl, hz⟩ := I.tuple hq
    have hlen := r'.length
    exact len_tuple pl (by simp only [List.size_toArray] <;> omega) ⟨.int ys.length, H, I.tok _, ⟨s.toks + 1, by rw [List.size_toArray, hlen]⟩, q⟩
def tyV (K : PySem.W.Frag) (T : String) (x : V) (H : Hp) : Prop := match x with
  | .str _ => T = "str"
  | .int _ => T = "int"
  | .ref p => (T = "list" ∧ ∃ xs, SqL K H p xs) ∨ (T = "tuple" ∧ ∃ o, K.lookup p = some o ∧ o.cls = .type "tuple" ∧ o.dict = none) ∨
      (T = "dict" ∧ ((∃ kvs, H p = some (.dK kvs)) ∨ ∃ kvs, H p = some (.dT kvs))) ∨ (T = "set" ∧ ∃ S n, H p = some (.set S n))
  | _ => False
theorem tyV_is {pins : List (Addr × Obj)} {σ : St} {H : Hp} {s : Shared} {T : String} {x : V} {v : Value} (I : Inv X pins σ H s) (r : RelV x v) (ty : tyV X.K T x H) :
    s.TypeIs v T ∧ ∀ a, v = .ref a → ∃ ob, s.heap.get? a = some ob ∧ ob.dict = none := by
  cases x with
  | str z =>
    obtain ⟨t, rfl⟩ := r
    cases (show T = "str" from ty)
    exact ⟨typeIs_str s z t, fun _ e => nomatch e⟩
  | int i =>
    obtain ⟨t, rfl⟩ := r
    cases (show T = "int" from ty)
    exact ⟨typeIs_int s i t, fun _ e => nomatch e⟩
  | ref p =>
    cases r
    rcases ty with ⟨rfl, xs, hq⟩ | ⟨rfl, o, hk, hc, hd⟩ | ⟨rfl, hk⟩ | ⟨rfl, S, n, hk⟩
    · obtain ⟨its, _, pl, _⟩ := I.list hq
      refine ⟨pl.isList.typeIs, fun a e => ?_⟩
      cases e
      obtain ⟨o, n, e, c, hd, _⟩ := pl
      exact ⟨o, e, hd⟩
    · refine ⟨⟨o, I.kIn p o hk, hc⟩, fun a e => ?_⟩
      cases e
      exact ⟨o, I.kIn _ o hk, hd⟩
    · have z : ∃ o, s.heap.get? p = some o ∧ o.ExactDict := by
        rcases hk with ⟨kvs, hk⟩ | ⟨kvs, hk⟩
        · obtain ⟨_, _, _, _, o, _, _, e, ex, _⟩ := I.hok p _ hk
          exact ⟨o, e, ex⟩
        · obtain ⟨_, _, _, _, o, _, _, e, ex, _⟩ := I.hok p _ hk
          exact ⟨o, e, ex⟩
      obtain ⟨o, e, ex⟩ := z
      refine ⟨⟨o, e, ex.1⟩, fun a e2 => ?_⟩
      cases e2
      exact ⟨o, e, ex.2.1⟩
    · obtain ⟨o, _, _, _, e, ex, _⟩ := I.hok p _ hk
      refine ⟨⟨o, e, ex.1⟩, fun a e2 => ?_⟩
      cases e2
      exact ⟨o, e, ex.2.1⟩
  | _ => exact False.elim ty
def tBM (K : PySem.W.Frag) (T : String) (r : V → List V → Hp → VK → Prop) (to : TE) (t : TA) : TE := fun σ H Q => to σ H fun x H1 => tyV K T x H1 ∧ t σ H1 fun xs H2 => r x xs H2 Q
variable {o e : Expr} {es : List Expr} {to : TE} {t : TA} {name : Str} {apos cpos : Pos} {T id : String} {r : V → List V → Hp → VK → Prop}
theorem pe_bm (pa : PlainAttrs T) (slot : Slot T name id) (hty : typeOf (.builtin id) = pure (.type "method_descriptor")) (hm : MtR X id r) (ho : PE X o to) (ha : PA X (e :: es) t)
    (hbase : attributeBase o name X.env (eval o X.env) = eval o X.env := by rfl)
    (hfew : ((backTo cpos (starEach (e :: es) X.env)).all (fun x => !x.1) && (backToKw cpos (keywordEach [] X.env)).all (fun x => x.1.isSome)
      && decide ((e :: es).length + ([] : List Keyword).length + (if ([] : List Keyword).isEmpty then 0 else 1) < 30)) = true := by rfl)
    (hline : (apos.endLine == cpos.line) = true := by rfl) (hs : starEach (e :: es) X.env = (false, eval e X.env) :: starEach es X.env := by rfl) (hplain : (backTo cpos (starEach es X.env)).any (·.1) = false := by rfl) :
    PE X (.Call (.Attribute o name apos) (e :: es) [] cpos) (tBM X.K T r to t) := by
  intro pins s σ H Q I h
  refine wpAny_Call_method_late hbase hfew hline rfl (thn (ho pins s σ H _ I h) fun v s1 ⟨x, H1, I1, r1, ty, q1⟩ => ?_)
  obtain ⟨h1, h2⟩ := tyV_is I1 r1 ty
  refine ⟨T, id, pa, slot, hty, h1, h2, ?_⟩
  have hA := ha cpos pins s1 σ H1 _ I1 q1
  rw [hs] at hA ⊢
  refine Calls.callWith_builtin (by show (false || (backTo cpos (starEach es X.env)).any (·.1)) = false; rw [hplain] <;> rfl) (Calls.evalArgs_plain ?_)
  exact thn hA fun us s2 ⟨vs, H2, I2, r2, q2⟩ => hm pins s2 σ H2 x vs v us Q I2 r1 r2 q2
end
end L2
namespace L2
open PySem PySem.Spec PyProof.Rows
def MtM (X : Cx) (id : String) (r : V → List V → Hp → VK → Prop) : Prop :=
  ∀ (pins : List (Addr × Obj)) (s : Shared) (σ : St) (H : Hp) (x : V) (xs : List V) (v : Value) (us : List Value) (Q : VK), Inv X pins σ H s → RelV x v → Vals xs us → r x xs H Q →
    wpAny (model X.prog X.w) X.A (call (.builtin id) (v :: us)) (EP X pins σ Q) X.xe s
theorem Vals.one : ∀ {x : V} {us : List Value}, Vals [x] us → ∃ u, us = [u] ∧ RelV x u
  | _, _, .cons r .nil => ⟨_, rfl, r⟩
theorem Vals.rep {xs : List V} {us : List Value} (h : Vals xs us) : ∀ k : Nat, Vals (List.replicate k xs).flatten (List.replicate k us).flatten
  | 0 => .nil
  | k + 1 => by
    rw [List.replicate_succ, List.replicate_succ, List.flatten_cons, List.flatten_cons]
    exact Vals.append h (Vals.rep h k)
theorem foldl_rep (its : List Value) : ∀ (k : Nat) (acc : List Value),
    List.foldl (fun x1 x2 => x1 ++ x2) acc.toArray (List.replicate k its.toArray) = (acc ++ (List.replicate k its).flatten).toArray
  | 0, acc => by simp
  | k + 1, acc => by
    have e : acc.toArray ++ its.toArray = (acc ++ its).toArray := by simp
    have e2 : (acc ++ its) ++ (List.replicate k its).flatten = acc ++ (List.replicate (k + 1) its).flatten := by
      rw [List.replicate_succ, List.flatten_cons, List.append_assoc]
    rw [← e2, ← foldl_rep its k (acc ++ its), ← e, List.replicate_succ, List.foldl_cons]
section
variable {X : Cx} {pins : List (Addr × Obj)} {σ : St} {H : Hp} {s : Shared} {l b : Addr} {xs ys zs : List V}
theorem Inv.lset {its its' : List Value} {n : Nat} {f : Array Value → Array Value} {t' : Nat} (I : Inv X pins σ H s) (hH : H l = some (.lst xs))
    (e : s.heap.get? l = some { cls := .type "list", data := .seq its.toArray n }) (hf : f its.toArray = its'.toArray) (hv : Vals ys its') (hz : ys.length ≤ sizeLine) :
    Inv X pins σ (upd H l (.lst ys)) { s with heap := s.heap.update l (Obj.mapSeq f), toks := t' } := by
  have q := PySem.IsL.update e f
  rw [hf] at q
  refine I.write (x := l) (e := l) (by rw [hH]; exact trivial) (.inl rfl) (fun b' u hb hu => (Heap.get?_update_other s.heap (Obj.mapSeq f) (Ne.symm hb)).trans hu) ⟨_, q⟩ ?_
  exact ⟨hz, its', _, hv, q⟩
theorem Inv.lnew {its : List Value} {t' : Nat} (I : Inv X pins σ H s) (hv : Vals ys its) (hz : ys.length ≤ sizeLine) :
    Inv X pins σ (upd H s.heap.objs.size (.lst ys)) { s with heap := s.heap.push { cls := .type "list", data := .seq its.toArray }, toks := t' } :=
  I.laid (fun _ _ q => Heap.get?_push_of_some _ q) (Nat.le_refl _) ⟨hz, its, 0, hv, Heap.get?_push_size _ rfl⟩
theorem Inv.fresh (I : Inv X pins σ H s) : H s.heap.objs.size = none := I.hok.fresh (Nat.le_refl _)
theorem Inv.lstM (I : Inv X pins σ H s) (hH : H l = some (.lst xs)) : xs.length ≤ sizeLine ∧ ∃ (its : List Value) (n : Nat), Vals xs its ∧ xs.length = its.length ∧ s.heap.get? l = some { cls := .type "list", data := .seq its.toArray n } := by
  obtain ⟨z, its, n, r, e⟩ := I.hok l _ hH
  exact ⟨z, its, n, r, r.length, e⟩
theorem notLongL {n : Nat} (h : n ≤ sizeLine) : Builtin.List.listTooLong n = false := by
  unfold Builtin.List.listTooLong
  exact decide_eq_false (by omega)
end
section
variable {X : Cx}
def rAppend : V → List V → Hp → VK → Prop := fun x vs H Q => ∃ l xs y, x = .ref l ∧ vs = [y] ∧ H l = some (.lst xs) ∧ xs.length < sizeLine ∧ Q .non (upd H l (.lst (xs ++ [y])))
theorem mt_append : MtM X "list.append" rAppend := by
  intro pins s σ H x vs v us Q I rx rv h
  obtain ⟨l, xs, y, rfl, rfl, hH, hz, q⟩ := h
  cases rx
  obtain ⟨u, rfl, ru⟩ := rv.one
  obtain ⟨z, its, n, r, hl, e⟩ := I.lstM hH
  refine call_meets F.slot_list_append ⟨_, e, rfl⟩ F.entry_list_append (F.args_list_append_2 _ _) (PySem.list_append l its.toArray n u (by rw [List.size_toArray]; omega)) ⟨e, ?_⟩
  refine ⟨.non, _, I.lset (its' := its ++ [u]) hH e (by simp) (r.append (.cons ru .nil)) ?_, rfl, q⟩
  rw [List.length_append, List.length_singleton]
  omega
def rExtend : V → List V → Hp → VK → Prop := fun x vs H Q => ∃ l b xs zs, x = .ref l ∧ vs = [.ref b] ∧ H l = some (.lst xs) ∧ H b = some (.lst zs) ∧ xs.length + zs.length ≤ sizeLine ∧ Q .non (upd H l (.lst (xs ++ zs)))
theorem mt_extend : MtM X "list.extend" rExtend := by
  intro pins s σ H x vs v us Q I rx rv h
  obtain ⟨l, b, xs, zs, rfl, rfl, hH, hB, hz, q⟩ := h
  cases rx
  obtain ⟨u, rfl, ru⟩ := rv.one
  cases ru
  obtain ⟨z, its, n, r, hl, e⟩ := I.lstM hH
  obtain ⟨z2, its2, n2, r2, hl2, e2⟩ := I.lstM hB
  have hsz : its.toArray.size + its2.toArray.size ≤ sizeLine := by rw [List.size_toArray, List.size_toArray]; omega
  have hlong : ¬ (!its.toArray.isEmpty && Builtin.List.listTooLong (its.toArray.size + its2.toArray.size)) = true := by
    rw [notLongL hsz, Bool.and_false]
    exact Bool.false_ne_true
  refine call_meets F.slot_list_extend ⟨_, e, rfl⟩ F.entry_list_extend (F.args_list_extend_2 _ _)
    (AutoSeq1.list_extend_list_list_0 l its.toArray n b its2.toArray n2 hlong (by rw [List.size_toArray]; omega) (by omega)) ⟨e, e2, ?_⟩
  refine ⟨.non, _, I.lset (its' := its ++ its2) hH e (by simp) (r.append r2) ?_, rfl, q⟩
  rw [List.length_append]
  omega
def rCat : R2 := fun x y H Q => ∃ l b xs zs, x = .ref l ∧ y = .ref b ∧ H l = some (.lst xs) ∧ H b = some (.lst zs) ∧ xs.length + zs.length ≤ sizeLine ∧ ∀ p, H p = none → Q (.ref p) (upd H p (.lst (xs ++ zs)))
theorem op_cat : OpR X (binaryOp .Add) rCat := by
  intro pins s σ H x y v u Q I rx ry h
  obtain ⟨l, b, xs, zs, rfl, rfl, hH, hB, hz, q⟩ := h
  cases rx
  cases ry
  obtain ⟨z, its, n, r, hl, e⟩ := I.lstM hH
  obtain ⟨z2, its2, n2, r2, hl2, e2⟩ := I.lstM hB
  refine PySem.P.add_list e e2 ?_ (by rw [List.size_toArray, List.size_toArray]; omega)
  have ea : its.toArray ++ its2.toArray = (its ++ its2).toArray := by simp
  rw [ea]
  exact ⟨.ref _, _, I.lnew (t' := s.toks) (r.append r2) (by rw [List.length_append]; omega), rfl, q _ I.fresh⟩
def rRep : R2 := fun x y H Q => ∃ l k xs, x = .ref l ∧ y = .int k ∧ H l = some (.lst xs) ∧ -(2 ^ 63) ≤ k ∧ k < 2 ^ 63 ∧ xs.length * k.toNat ≤ sizeLine ∧
  ∀ p, H p = none → Q (.ref p) (upd H p (.lst (List.replicate k.toNat xs).flatten))
theorem len_rep {α : Type} (xs : List α) (k : Nat) : (List.replicate k xs).flatten.length = k * xs.length := by
  induction k with
  | zero => simp
  | succ k ih => rw [List.replicate_succ, List.flatten_cons, List.length_append, ih, Nat.succ_mul, Nat.add_comm]
theorem op_rep : OpR X (binaryOp .Mult) rRep := by
  intro pins s σ H x y v u Q I rx ry h
  obtain ⟨l, k, xs, rfl, rfl, hH, h1, h2, hz, q⟩ := h
  cases rx
  obtain ⟨t, rfl⟩ := ry
  obtain ⟨z, its, n, r, hl, e⟩ := I.lstM hH
  have hlen : its.toArray.size * k.toNat ≤ sizeLine := by rw [List.size_toArray, ← hl]; exact hz
  have hcap : ¬ its.toArray.size * k.toNat > (2 ^ 63 - 1) / 8 := by
    have : (sizeLine : Nat) ≤ (2 ^ 63 - 1) / 8 := by decide
    omega
  have hfit : ¬ (!Builtin.List.listFitsIndex k) = true := by
    rw [fitsIndex_both h1 h2]
    exact Bool.false_ne_true
  have hlong : ¬ Builtin.List.listTooLong (its.toArray.size * k.toNat) = true := by
    rw [notLongL hlen]
    exact Bool.false_ne_true
  have hnew : List.foldl (fun x1 x2 => x1 ++ x2) #[] (List.replicate (if its.toArray.isEmpty = true then 0 else k.toNat) its.toArray) = (List.replicate k.toNat its).flatten.toArray := by
    have f0 : ∀ m : Nat, List.foldl (fun x1 x2 => x1 ++ x2) #[] (List.replicate m its.toArray) = (List.replicate m its).flatten.toArray := fun m => by
      have := foldl_rep its m []
      rw [List.nil_append] at this
      exact this
    rw [f0]
    cases its with
    | nil => simp
    | cons a r' => rw [if_neg (by simp)]
  refine wpAny_binaryOp_repeat_ref (T := "list") (U := "int") (by decide) ⟨_, e, rfl⟩ (fun s' => typeIs_int s' k t) noFill_list_mul F.fills_int_mul F.slot_int_rmul repeat_list F.slot_int_index.lookup
    (call_meets F.slot_int_rmul (typeIs_int s k t) F.entry_int_rmul (F.args_int_rmul_2 _ _) (int___rmul___int_list k t l its.toArray n)
      ⟨e, rfl, ⟨_, e, rfl⟩, call_meets F.slot_list_mul ⟨_, e, rfl⟩ F.entry_list_mul (F.args_list_mul_2 _ _) (AutoListH.list___mul___list_int_3 l its.toArray n k t hfit hcap hlong) ⟨e, ?_⟩⟩)
  rw [hnew]
  exact ⟨.ref _, _, I.lnew (t' := s.toks) (r.rep k.toNat) (by rw [len_rep, Nat.mul_comm]; exact hz), rfl, q _ I.fresh⟩
end
end L2
namespace Att
open PySem PySem.W PySem.Calls PyProof.Rows
theorem ints_of_wellAll {P : Params} {h : Heap} : ∀ (ns : List Int) (vs : List Value), WellAll P h vs (ns.map WData.int) → IntsAre vs ns := by
  intro ns
  induction ns with
  | nil =>
    intro vs w
    rw [List.map_nil] at w
    cases w
    exact .nil
  | cons n ns ih =>
    intro vs w
    rw [List.map_cons] at w
    cases w with
    | cons a b =>
      cases a
      exact .cons _ _ (ih _ b)
theorem script_of {l : OpenLaw} {n : Nat} (hn : l.most = some n) {P : Params} {h : Heap} {args : List WData} {vals : List Value}
    (hpre : l.row.toRowW.claim.pre args = true) (hwl : WellAll P h vals args) :
    ∃ a vs ns, vals = [Value.ref a] ∧ args = [WData.list (ns.map WData.int)] ∧ h.get? a = some { cls := .type "list", data := .seq vs.toArray } ∧ IntsAre vs ns ∧ ns.length ≤ n := by
  have hsh : WShape.hasAll [] args [.list .int] = true := (pre_splitW hpre).1
  have hc : l.pre.holds [] { args := args } = true := (pre_splitW hpre).2
  obtain ⟨d, r, rfl, h1, h2⟩ := hasAllW_cons hsh
  obtain rfl := hasAllW_nil h2
  obtain ⟨xs, rfl, h3⟩ := hasW_list h1
  obtain ⟨ns, rfl⟩ := items_int h3
  have hlen : ns.length ≤ n := by
    unfold OpenLaw.pre at hc
    have h4 : (WTm.not (.lt (.lit (.int (n : Int))) (.len (.arg 0)))).holds [] { args := [.list (ns.map .int)] } = true := by
      have h4 := (holds_andW hc).1
      rw [hn] at h4
      exact h4
    have h5 := condW_of h4 (w_not (w_lt w_lit (w_len_list (w_arg rfl))))
    rw [List.length_map] at h5
    refine Nat.le_of_not_lt fun q => ?_
    have q' : (n : Int) < ((ns.length : Nat) : Int) := by omega
    first
      | (rw [decide_eq_true q'] at h5; exact absurd h5 (by decide))
      | (simp at h5; omega)
  cases hwl with
  | cons w1 w2 =>
    cases w2
    cases w1 with
    | list ho hall => exact ⟨_, _, ns, rfl, rfl, ho, ints_of_wellAll ns _ hall, hlen⟩
theorem post_true (l : OpenLaw) (args : List WData) : l.row.toRowW.claim.post args (.bool true) args = true :=
  postW_of (r := l.row.toRowW) (X := (true == true))
    (show WShape.has [] (.bool true) .bool = true by first | rfl | decide | simp [WShape.has, WShape.arms, WShape.armsAll])
    (show (WTm.eq .res (.lit (.bool true))).value [] { args := args, res := some (.bool true), after := args } = some (.bool (true == true)) from w_eq_bool (w_res rfl) w_lit) rfl
theorem attach_call {l : OpenLaw} {n : Nat} {q : Program} {loose : List Str} {XP : (Str → Option Value) → Heap → Prop} {YP : World → Heap → Prop} {d : DefRec}
    (hn : l.most = some n) (hdf : d.params.defaults = [])
    (call : ∀ (w : World) (s₀ s₁ : Shared) (mg mb : Str → Option Value) (fa : Addr) (o : Obj) (pm cd doc : Value) (a : Addr) (vs : List Value) (ns : List Int),
      Ground q loose [] XP w s₀ mg mb s₁.heap → YP w s₁.heap →
      s₁.heap.get? fa = some o → o.data = .func (docDef d.name d.params d.body d.scope pm cd doc) → s₁.heap.CodeRec cd d.name → mg d.name = some (.ref fa) →
      s₁.heap.get? a = some { cls := .type "list", data := .seq vs.toArray } → IntsAre vs ns → ns.length ≤ n → s₁.gens = #[] →
      codeAny (model l.prog w) callerA (.call (.ref fa) ⟨[.ref a], []⟩) (fun r s' => r = .ok (.ret (.bool true)) ∧ OldK s₁.heap s'.heap ∧ s'.os = s₁.os ∧ AllBare s'.gens) s₁) :
    WalkO q loose XP YP l.row.toRowW d [] (fun f vs => PySem.call f vs) := by
  intro w s₀ s₁ mg mb G Y fa o pm cd doc dV kV ho hd hcd hD hmg hg args vals as hpre hlay hrd hwl hlo
  obtain rfl : dV = .none := Dflts.none hD hdf
  obtain rfl : kV = .none := Dflts.noKw hD
  obtain ⟨a, vs, ns, rfl, rfl, hobj, hints, hlen⟩ := script_of hn hpre hwl
  refine enter_call (codeAny_mono (call w s₀ s₁ mg mb fa o pm cd doc a vs ns G Y ho (fd_plain hd) hcd hmg hobj hints hlen hg) fun r s' hq => ?_)
  obtain ⟨rfl, h2, h3, h4⟩ := hq
  exact ⟨.inl ⟨.bool true, .bool true, [], rfl, fun _ => rfl, .bool true, post_true l _, fun _ => ⟨List.Pairwise.nil, fun _ hm => (nomatch hm)⟩⟩, h2, h3, h4⟩
end Att
namespace L2
open PySem PySem.Spec PyProof.Rows
theorem vals_ints : ∀ {vs : List Value} {ns : List Int}, IntsAre vs ns → Vals (ns.map V.int) vs
  | _, _, .nil => .nil
  | _, _, .cons n t h => .cons ⟨t, rfl⟩ (vals_ints h)
end L2
namespace L2
open PySem PySem.Spec PyProof.Rows
end L2
namespace L2
open PySem PySem.Spec PyProof.Rows
def defArgs (s : Stmt) : Arguments := match s with
  | .FunctionDef _ a _ _ _ _ _ _ _ _ => a
  | _ => { posonlyargs := [], args := [], vararg := none, kwonlyargs := [], kw_defaults := [], kwarg := none, defaults := [] }
def defBody (s : Stmt) : List Stmt := match s with
  | .FunctionDef _ _ b _ _ _ _ _ _ _ => b
  | _ => []
def defScope (s : Stmt) : Scope := match s with
  | .FunctionDef _ _ _ _ _ _ sc _ _ _ => sc
  | _ => { kind := .function, names := [], isGenerator := false, isCoroutine := false }
abbrev CX0 : CXT := fun _ _ _ _ _ _ => False
abbrev E0 : XK := fun _ _ _ => False
theorem pass0 {X : Cx} : Passes CX0 X E0 := fun _ _ _ _ _ _ _ h => h.elim
structure Fun (K : PySem.W.Frag) (x qual : Str) (st : Stmt) (f : Addr) (fd : FuncData) : Prop where
  ex : ∃ (oc : Value) (od : Option Addr) (kV doc pm : Value) (an : Option Addr) (cdv ct : Value) (osl : Array (Option Value)),
    fd = PySem.W.fnOf x qual (defArgs st) (defBody st) (defScope st) .none kV doc pm an cdv ct ∧ K.lookup f = some ⟨oc, od, .func fd, osl⟩ ∧ PySem.W.codeIn K cdv qual = true
  kp : PySem.W.keepIn K (.ref f) = true
section
variable {P : Program} {w : World} {K : PySem.W.Frag} {mg : Str → Option Value} {base : Heap}
theorem Fun.ok {x qual : Str} {st : Stmt} {f : Addr} {fd : FuncData} {N ps : List Str} {k : Nat} {sp : Sp} (F : Fun K x qual st f fd) (S : FnScope N ps (defScope st)) (len : ∀ vs H Q E, sp vs H Q E → vs.length = ps.length)
    (hbody : ∀ (cdv : Value) (A : Around) (outer : List Env) (s : Shared) (H : Hp) (vs : List V) (Q : VK) (E : XK), Room k (A.deeper (envOfC qual (defScope st) s.heap.objs.size f cdv)) → sp vs H Q E →
      ∃ t, PSs (cxOf CX0 P w K mg base N qual (defScope st) f cdv A outer s H E).nox (defBody st) t ∧ t { nx := fun _ H' => Q .non H', rt := Q } (start N vs) H) : FnOk P w K mg base CX0 (k + 1) f fd ps sp := by
  obtain ⟨oc, od, kV, doc, pm, an, cdv, ct, osl, rfl, lk, hcd⟩ := F.ex
  refine fn_of lk hcd S len fun A outer s H vs Q E hr hsp => ?_
  obtain ⟨t, h, q⟩ := hbody cdv A outer s H vs Q E hr hsp
  exact ⟨t, h.nox, q⟩
theorem Fun.binds {x qual : Str} {st : Stmt} {f : Addr} {fd : FuncData} {ps : List Str} (F : Fun K x qual st f fd)
    (h : ∀ (kV doc pm : Value) (an : Option Addr) (cdv ct : Value) (us : List Value), us.length = ps.length → bindArgs (PySem.W.fnOf x qual (defArgs st) (defBody st) (defScope st) .none kV doc pm an cdv ct) ⟨us, []⟩ = pure (ps.zip us)) : Binds K fd ps [] := by
  obtain ⟨oc, od, kV, doc, pm, an, cdv, ct, osl, rfl, lk, hcd⟩ := F.ex
  exact .all (h kV doc pm an cdv ct)
theorem fun_mk {x qual : Str} {st : Stmt} {f : Addr} {oc : Value} {od an : Option Addr} {osl : Array (Option Value)} {kV doc pm cdv ct : Value} (l : K.lookup f = some ⟨oc, od, .func (PySem.W.fnOf x qual (defArgs st) (defBody st) (defScope st) .none kV doc pm an cdv ct), osl⟩)
    (c : PySem.W.codeIn K cdv qual = true) (k : PySem.W.keepIn K (.ref f) = true) : Fun K x qual st f (PySem.W.fnOf x qual (defArgs st) (defBody st) (defScope st) .none kV doc pm an cdv ct) := ⟨⟨oc, od, kV, doc, pm, an, cdv, ct, osl, rfl, l, c⟩, k⟩
end
section
variable {X : Cx}
theorem pv (i : Nat) {x : Str} {pos : Pos} (hN : X.N[i]? = some x := by rfl) (hv : Vis X.env.scope x := by first | exact Or.inl rfl | exact Or.inr (Or.inl rfl) | exact Or.inr (Or.inr rfl)) (hd : (x == ("__debug__" : Str)) = false := by decide)
    (hcd : (x == ("__classdict__" : Str)) = false := by decide) : PE X (.Name x pos) (tVar i) := pe_var hN hv hd hcd
end
theorem iteF {A B : Prop} (h : B) : if false = true then A else B := by
  rw [if_neg Bool.false_ne_true]
  exact h
theorem iteT {A B : Prop} (h : A) : if true = true then A else B := by
  rw [if_pos rfl]
  exact h
theorem ite2 {c A B : Prop} [Decidable c] (h1 : c → A) (h2 : ¬ c → B) : if c then A else B := by
  by_cases h : c
  · rw [if_pos h]
    exact h1 h
  · rw [if_neg h]
    exact h2 h
def Same (H H' : Hp) : Prop := ∀ b o, H b = some o → H' b = some o
theorem Same.refl (H : Hp) : Same H H := fun _ _ h => h
theorem Same.trans {H H1 H2 : Hp} (a : Same H H1) (b : Same H1 H2) : Same H H2 := fun c o h => b c o (a c o h)
theorem Same.free {H H' : Hp} (e : Same H H') {l : Addr} (h : H' l = Option.none) : H l = Option.none := by
  cases q : H l with
  | none => rfl
  | some o =>
    rw [e l o q] at h
    cases h
theorem Same.seq {K : PySem.W.Frag} {H H' : Hp} {a : Addr} {xs : List V} (e : Same H H') (h : SqL K H a xs) : SqL K H' a xs := by
  rcases h with (h | ⟨o, h⟩) | h
  · exact .inl (.inl (e _ _ h))
  · exact .inl (.inr ⟨o, e _ _ h⟩)
  · exact .inr h
end L2
set_option Elab.async false
set_option linter.all false
set_option maxRecDepth 100000
namespace L2
open PySem PySem.Spec PyProof.Rows
end L2
set_option Elab.async false
set_option linter.all false
set_option maxRecDepth 100000
namespace L2
open PySem PySem.Spec PyProof.Rows
section
variable {prog : Program} {w : World} {A : Around} {E : Value → Shared → Prop} {z : Shared}
theorem tupNext {j t : Addr} {n : Nat} {its : Array Value} {v : Value} {Q : Value → Shared → Prop} (hj : z.heap.IsTupleIter j t n) (ht : z.heap.IsTuple t its) (hv : its[n]? = some v)
    (q : ∀ h', h'.IsTupleIter j t (n + 1) → Heap.SameBut j z.heap h' → Q v { z with heap := h' }) : wpAny (model prog w) A (Builtin.SmallTypes.nextOf (.ref j)) Q E z := by
  obtain ⟨oj, gj, cj, dj⟩ := id hj
  obtain ⟨ot, gt, _, nt, dt⟩ := ht
  unfold Builtin.SmallTypes.nextOf
  refine wpAny_bind (wpAny_callSpecial?_slot (name := Str.ofString "__next__") hj.typeIs F.slot_tuple_iterator_next ?_)
  refine wpAny_call_entry F.slot_tuple_iterator_next hj.typeIs F.entry_tuple_iterator_next ?_ (F.args_tuple_iterator_next_1 _)
  show wpAny _ _ (field (.ref j) 0 >>= _) _ _ z
  refine wpAny_bind (wpAny_field gj dj (x := .ref t) rfl ?_)
  show wpAny _ _ (if (Value.ref t == Value.none) = true then _ else _) _ _ z
  rw [if_neg (show ¬ ((Value.ref t == Value.none) = true) from fun z => Bool.false_ne_true z)]
  show wpAny _ _ (field (.ref j) 1 >>= _) _ _ z
  refine wpAny_bind (wpAny_field gj dj (x := .int n 0) rfl ?_)
  show wpAny _ _ (seqItems? (.ref t) >>= _) _ _ z
  refine wpAny_bind (wpAny_seqItems gt dt ?_)
  simp only [Int.toNat_natCast, hv]
  refine wpAny_bind (wpAny_setField gj dj (by simp) (wpAny_pure ⟨v, rfl, wpAny_pure (q _ ⟨_, Heap.get?_update_self _ gj (Obj.isFreed_of_fields (Obj.data_mapFields dj _)), (Obj.cls_mapFields ..).trans cj, ?_⟩ (Heap.SameBut.update ..))⟩))
  rw [Obj.data_mapFields dj]
  simp [rawInt]
theorem tupNextEnd {j t : Addr} {n : Nat} {its : Array Value} {Q : Value → Shared → Prop} (hh : A.handled = none) (hj : z.heap.IsTupleIter j t n) (ht : z.heap.IsTuple t its) (hv : its[n]? = none)
    (q : ∀ h' e, Heap.ExtBut j z.heap h' → (∃ o, h'.get? e = some o ∧ o.cls = .type "StopIteration") → E (.ref e) { z with heap := h' }) : wpAny (model prog w) A (Builtin.SmallTypes.nextOf (.ref j)) Q E z := by
  obtain ⟨oj, gj, cj, dj⟩ := id hj
  obtain ⟨ot, gt, _, nt, dt⟩ := ht
  unfold Builtin.SmallTypes.nextOf
  refine wpAny_bind (wpAny_callSpecial?_slot (name := Str.ofString "__next__") hj.typeIs F.slot_tuple_iterator_next ?_)
  refine wpAny_call_entry F.slot_tuple_iterator_next hj.typeIs F.entry_tuple_iterator_next ?_ (F.args_tuple_iterator_next_1 _)
  show wpAny _ _ (field (.ref j) 0 >>= _) _ _ z
  refine wpAny_bind (wpAny_field gj dj (x := .ref t) rfl ?_)
  show wpAny _ _ (if (Value.ref t == Value.none) = true then _ else _) _ _ z
  rw [if_neg (show ¬ ((Value.ref t == Value.none) = true) from fun z => Bool.false_ne_true z)]
  show wpAny _ _ (field (.ref j) 1 >>= _) _ _ z
  refine wpAny_bind (wpAny_field gj dj (x := .int n 0) rfl ?_)
  show wpAny _ _ (seqItems? (.ref t) >>= _) _ _ z
  refine wpAny_bind (wpAny_seqItems gt dt ?_)
  simp only [Int.toNat_natCast, hv]
  refine wpAny_bind (wpAny_rule ?_)
  refine wpAny_bind (wpAny_setField gj dj (by simp) ?_)
  show wpAny _ _ (newExc (.type "StopIteration") [] >>= _) _ _ _
  refine wpAny_bind ?_
  simp only [newExc, newTuple]
  refine wpAny_bind (wpAny_newObj_type ?_ (by size_fits))
  refine wpAny_bind (m := firstArgMember _ _) ?_
  refine wpAny_of_eq (a := Value.none) (by first | rfl | (simp only [firstArgMember]; rfl)) ?_
  refine wpAny_newObj_type ?_ (by size_fits)
  simp only [raiseNew]
  refine wpAny_bind (wpAny_handled ?_)
  first
    | rw [show A.in1.handled = none from hh]
    | rw [hh]
  exact wpAny_bind (wpAny_pure (wpAny_throw (q _ _ (((Heap.SameBut.update ..).extBut.push _).push _) ⟨_, Heap.get?_push_size _ rfl, rfl⟩)))
end
theorem draws_tuple {prog : Program} {w : World} {A : Around} (hh : A.handled = none) (j t : Addr) (hne : t ≠ j) (its : Array Value) :
    Draws prog w A j [j, t] its.size (fun i v => its[i]? = some v) (fun i h => h.IsTupleIter j t i ∧ h.IsTuple t its) where
  live := fun _ _ x => let ⟨o, e, _⟩ := x.1; ⟨o, e⟩
  frame := fun _ _ _ x k => ⟨x.1.at fun o e => k j (by simp) o e, let ⟨o, e, r⟩ := x.2; ⟨o, k t (by simp) o e, r⟩⟩
  item := fun i z Q E hi x q => tupNext x.1 x.2 (v := its[i]) (by simp [hi]) fun h' a b => q _ h' z.toks (by simp [hi]) ⟨a, let ⟨o, e, r⟩ := x.2; ⟨o, (b.2 t hne).trans e, r⟩⟩ b
  done := fun z Q E x q => tupNextEnd hh x.1 x.2 (by simp) q
theorem enumNewT (l : Addr) (its : Array Value) (n : Nat) (dct : Option Addr) (sl : Array (Option Value)) :
    Meets (Builtin.«enumerate.__new__» ⟨[.type "enumerate", .ref l], []⟩) (fun _ R z => z.heap.get? l = some { cls := .type "tuple", dict := dct, data := .seq its n, slots := sl } ∧
      R (.ok (.ret (.ref (z.heap.push { cls := .type "tuple_iterator", data := .fields #[.ref l, .int 0 0] }).objs.size)))
        { z with heap := (z.heap.push { cls := .type "tuple_iterator", data := .fields #[.ref l, .int 0 0] }).push { cls := .type "enumerate", data := .fields #[.none, .bool false, .ref z.heap.objs.size, rawInt 0, .none, .none] } }) :=
  .of_wp fun prog w A R z hz => by
    obtain ⟨hp, g, d, tk, os⟩ := z
    obtain ⟨hl, hr⟩ := hz
    have hs := sub_enumerate
    have hT : Heap.IsTuple (Shared.heap ⟨hp, g, d, tk, os⟩) l its := ⟨_, hl, rfl, n, rfl⟩
    wp_walk using AutoSeq1.wpAny_loadPart' hl
    refine wpAny_stack_any fun st => ?_
    refine wpAny_pure ?_
    split
    · rename_i c _ _ _ _ _
      cases (c == Value.type "enumerate") with
      | false =>
        wp_walk using AutoSeq1.wpAny_loadPart' hl, wpAny_pyIter_tuple hT
        exact ⟨_, rfl, hr⟩
      | true =>
        wp_walk using AutoSeq1.wpAny_loadPart' hl, wpAny_pyIter_tuple hT
        exact ⟨_, rfl, hr⟩
    · wp_walk using AutoSeq1.wpAny_loadPart' hl, wpAny_pyIter_tuple hT
      exact ⟨_, rfl, hr⟩
theorem enumCallT {prog : Program} {w : World} {A : Around} {E : Value → Shared → Prop} {z : Shared} {l : Addr} {its : Array Value} {Q : Value → Shared → Prop} (hT : z.heap.IsTuple l its)
    (q : ∀ h', IsEnum h' (z.heap.objs.size + 1) z.heap.objs.size 0 .none → h'.IsTupleIter z.heap.objs.size l 0 → h'.objs.size = z.heap.objs.size + 2 →
      (∀ b o, z.heap.get? b = some o → h'.get? b = some o) → Q (.ref (z.heap.objs.size + 1)) { z with heap := h' }) : wpAny (model prog w) A (call (.type "enumerate") [.ref l]) Q E z := by
  obtain ⟨⟨c, dct, dt, sl⟩, hl, hc, n, hd⟩ := hT
  have hc : c = .type "tuple" := hc
  have hd : dt = .seq its n := hd
  subst hc hd
  refine callType_new F.called_enumerate (by decide) (F.typeCall_enumerate_1 _) (F.newCall_enumerate_1 _) (fun ob => F.args_object_init_2 ob _) F.entry_enumerate_new (enumNewT l its n dct sl) ⟨hl, ?_⟩
  have e1 : (z.heap.push { cls := .type "tuple_iterator", data := .fields #[.ref l, .int 0 0] }).objs.size = z.heap.objs.size + 1 := Heap.size_push ..
  show _ ∧ _
  rw [e1]
  have e2 : IsEnum ((z.heap.push { cls := .type "tuple_iterator", data := .fields #[.ref l, .int 0 0] }).push { cls := .type "enumerate", data := .fields #[.none, .bool false, .ref z.heap.objs.size, rawInt 0, .none, .none] })
      (z.heap.objs.size + 1) z.heap.objs.size 0 .none := by
    have e3 := Heap.get?_push_size (z.heap.push { cls := .type "tuple_iterator", data := .fields #[.ref l, .int 0 0] }) (o := { cls := .type "enumerate", data := .fields #[.none, .bool false, .ref z.heap.objs.size, rawInt 0, .none, .none] }) rfl
    rw [e1] at e3
    exact e3
  exact ⟨⟨_, e2, rfl⟩, q _ e2 ⟨_, Heap.get?_push_of_some _ (Heap.get?_push_size _ rfl), rfl, rfl⟩ (by rw [Heap.size_push, e1]) fun b o e => Heap.get?_push_of_some _ (Heap.get?_push_of_some _ e)⟩
def Ite (K : PySem.W.Frag) (a : Addr) : It :=
  ⟨fun i H => ∃ xs x, SqT K H a xs ∧ xs[i]? = some x, fun i H x H' => ∃ p y, H p = none ∧ x = .ref p ∧ H' = upd H p (.tup [.int i, y]) ∧ ∀ xs, SqT K H a xs → xs[i]? = some y, fun i H => ∃ xs, SqT K H a xs ∧ xs.length ≤ i⟩
theorem Inv.track {X : Cx} {pins : List (Addr × Obj)} {σ : St} {H : Hp} {s : Shared} {p : Addr} {o : HO} (I : Inv X pins σ H s) (hn : H p = none) (h0 : X.s₀.heap.get? p = none) (hl : p ≠ X.env.locals)
    (hc : ∀ x c, X.env.cells.lookup x = some c → c ≠ p) (hp : ∀ q ∈ X.pn ++ pins, q.1 ≠ p) (new : ObjOk X.prog X.w (upd H p o) s.heap p o) : Inv X pins σ (upd H p o) s where
  ok := I.ok
  os := I.os
  bare := I.bare
  base := ⟨I.base.keep, I.base.slot, fun b ob e n hx => by
      rw [upd_ne (fun z => by rw [z, h0] at e; cases e)]
      exact I.base.free b ob e n hx, I.base.there,
    fun b xs e => by rw [upd_ne (ne_of_none (I.base.tups b xs e) hn)]; exact I.base.tups b xs e,
    fun b ob u e => by rw [upd_ne (ne_of_none (I.base.frzs b ob u e) hn)]; exact I.base.frzs b ob u e,
    fun b ps e => by
      obtain ⟨m, z⟩ := I.base.tbls b ps e
      exact ⟨m, by rw [upd_ne (ne_of_none z hn)]; exact z⟩⟩
  loc := I.loc
  cell := I.cell
  free := by rw [upd_ne hl.symm]; exact I.free
  freeC := fun x c e => by rw [upd_ne (hc x c e)]; exact I.freeC x c e
  pin := fun q m => by
    obtain ⟨a, b, c⟩ := I.pin q m
    exact ⟨a, by rw [upd_ne (hp q m)]; exact b, c⟩
  hok := fun b u e => by
    by_cases hb : b = p
    · subst hb
      rw [upd_same] at e
      cases e
      exact new
    · rw [upd_ne hb] at e
      exact (I.hok b u e).stay (fun _ _ _ q => q) (fun c q => by rw [upd_ne (ne_of_none q hn)]; exact q) fun c xs q => by rw [upd_ne (ne_of_none q hn)]; exact q
  len := I.len
theorem Inv.turned2 {X : Cx} {pins : List (Addr × Obj)} {σ : St} {H : Hp} {s : Shared} {h' : Heap} {t' : Nat} {i j : Addr} (I : Inv X pins σ H s) (k : ∀ b o, b ≠ i → b ≠ j → s.heap.get? b = some o → h'.get? b = some o) (fi : FpOk X pins H i) (fj : FpOk X pins H j) :
    Inv X pins σ H { s with heap := h', toks := t' } := by
  obtain ⟨a0, a1, a2, a3, a4, a5⟩ := fi
  obtain ⟨b0, b1, b2, b3, b4, b5⟩ := fj
  have nit : ∀ b u, H b = some u → b ≠ i ∧ b ≠ j := fun b u e => ⟨(fun z => by rw [z, a0] at e; cases e), (fun z => by rw [z, b0] at e; cases e)⟩
  have kk : ∀ b o, b ∉ [i, j] → s.heap.get? b = some o → h'.get? b = some o := fun b o m e => k b o (fun z => m (by simp [z])) (fun z => m (by simp [z])) e
  refine I.step (g' := s.gens) (d' := s.drawn) (ch := [i, j]) (fun b hb => ?_) (fun b o _ _ m e _ => kk b o m e) (fun b o _ _ m e _ => ⟨o.slots, kk b o m e⟩) (fun _ _ _ _ n => n) (fun b o m e => ⟨o, kk b o m e⟩) (fun _ _ e => e) (fun _ _ _ e => e)
    (fun b ps e => ⟨#[], by rw [e]; simp⟩) (fun m hm => ?_) (fun b u e => ?_) I.bare
  · rcases List.mem_cons.mp hb with rfl | hb
    · exact ⟨a3, a1, a4, a5⟩
    · obtain rfl := List.mem_singleton.mp hb
      exact ⟨b3, b1, b4, b5⟩
  · obtain ⟨o, es, ep, ho, r⟩ := hm
    exact ⟨o, es, ep, k _ o a1.symm b1.symm ho, r⟩
  · refine (I.hok b u e).stay (fun c v hc q => k c v ?_ ?_ q) (fun _ q => q) fun _ _ q => q
    · rcases hc with z | z
      · rw [z]; exact (nit b u e).1
      · exact (nit c _ z).1
    · rcases hc with z | z
      · rw [z]; exact (nit b u e).2
      · exact (nit c _ z).2
theorem turn_enumT {P : Program} {w : World} {K : PySem.W.Frag} {elts : List Expr} {kx : Nat} {px : Pos} (a e it : Addr) (hei : e ≠ it) :
    Turn P w K (.Tuple elts kx px) (Ite K a) [e, it] e (fun i h => (∃ old, IsEnum h e it (i : Nat) old) ∧ h.IsTupleIter it a i) where
  mem := by simp
  obj := fun i h st b hb => by
    obtain ⟨⟨old, he⟩, ⟨o, ho, c, d⟩⟩ := st
    rcases List.mem_cons.mp hb with rfl | hb
    · exact ⟨_, he, fun v z => by
        have z' : Data.fields _ = Data.cell v := z
        cases z'⟩
    · obtain rfl := List.mem_singleton.mp hb
      exact ⟨o, ho, fun v z => by rw [d] at z; cases z⟩
  keep := fun i h h' st k => ⟨let ⟨old, he⟩ := st.1; ⟨old, k e (by simp) _ he⟩, st.2.at fun o q => k it (by simp) o q⟩
  item := by
    intro X hP hw hK hc i pins s σ H E I hf st hg
    subst hP hw hK
    obtain ⟨⟨old, he⟩, hit⟩ := st
    obtain ⟨xs, x, hq, hx⟩ := hg
    obtain ⟨its, rv, tp, hz⟩ := I.tuple hq
    obtain ⟨u, hu, ru⟩ := rv.get hx
    have hil : i < xs.length := (List.getElem?_eq_some_iff.mp hx).1
    have tp' : s.heap.IsTuple a its.toArray := tp
    have nai : a ≠ it := fun z => by
      obtain ⟨o, g1, g2, _⟩ := tp'
      obtain ⟨o', g1', g2', _⟩ := hit
      rw [z, g1'] at g1
      cases g1
      rw [g2'] at g2
      exact absurd g2 (by decide)
    have nae : a ≠ e := fun z => by
      obtain ⟨o, g1, g2, _⟩ := tp'
      rw [z, he] at g1
      cases g1
      have g3 : Value.type "enumerate" = Value.type "tuple" := g2
      exact absurd g3 (by decide)
    have D := draws_tuple (prog := X.prog) (w := X.w) (A := X.A.in1) (by exact I.ok.hd hc) it a nai its.toArray
    refine wpAny_pyNext_enum_itemD D he ⟨hit, tp'⟩ (by rw [List.size_toArray, ← rv.length]; exact hil) hei (by simp [hei, nae.symm]) fun y h' tk hP ho hs' hT hsz hk => ?_
    have ey : y = u := by
      rw [List.getElem?_toArray, hu] at hP
      exact (Option.some.inj hP).symm
    subst ey
    refine ⟨_, rfl, wpAny_letOwnedTupleGo_enum ho fun h2 he2 hs2 => ?_⟩
    have ne1 : s.heap.objs.size ≠ e := Nat.ne_of_gt (Heap.lt_size he)
    have k2 : ∀ b o, b ≠ e → b ≠ it → s.heap.get? b = some o → h2.get? b = some o := fun b o n1 n2 q => (hs2.2 b n1).trans (hk b o n1 n2 q)
    have I1 : Inv X pins σ H { s with heap := h2, toks := tk + 1 } := I.turned2 k2 (hf e (by simp)) (hf it (by simp))
    have hn : H s.heap.objs.size = none := I.hok.fresh (Nat.le_refl _)
    have FP := I.fpOk (b := s.heap.objs.size) (Nat.le_refl _) hn
    have hT2 : h2.get? s.heap.objs.size = some { cls := .type "tuple", data := .seq #[.int i tk, y] } := (hs2.2 _ ne1).trans hT
    have I2 := I1.track (p := s.heap.objs.size) (o := .tup [.int i, x]) hn (Heap.get?_none_of_le I.sz) FP.2.1 FP.2.2.2.2.1 FP.2.2.2.2.2
      ⟨by show 2 ≤ sizeLine; decide, [.int i tk, y], .cons ⟨tk, rfl⟩ (.cons ru .nil), ⟨_, hT2, rfl, _, rfl⟩⟩
    refine ⟨.ref s.heap.objs.size, _, I2, rfl, ⟨_, x, hn, rfl, rfl, fun ys hy => ?_⟩, ⟨⟨y, by simpa using he2⟩, hs'.1.at fun o q => (hs2.2 it hei.symm).trans q⟩, fun b hb => ?_⟩
    · rw [I.tuple_inj hy hq]; exact hx
    · have hb2 : b ≠ s.heap.objs.size := by
        rcases List.mem_cons.mp hb with rfl | hb
        · exact ne1.symm
        · obtain rfl := List.mem_singleton.mp hb
          obtain ⟨o, g, _⟩ := hit
          exact Nat.ne_of_lt (Heap.lt_size g)
      rw [upd_ne hb2]
      exact (hf b hb).1
  done := by
    intro X hP hw hK hc i pins s σ H E I hf st hg
    subst hP hw hK
    obtain ⟨⟨old, he⟩, hit⟩ := st
    obtain ⟨xs, hq, hx⟩ := hg
    obtain ⟨its, rv, tp, hz⟩ := I.tuple hq
    have tp' : s.heap.IsTuple a its.toArray := tp
    have nai : a ≠ it := fun z => by
      obtain ⟨o, g1, g2, _⟩ := tp'
      obtain ⟨o', g1', g2', _⟩ := hit
      rw [z, g1'] at g1
      cases g1
      rw [g2'] at g2
      exact absurd g2 (by decide)
    have hl := rv.length
    have hT : s.TypeIs (.ref e) "enumerate" := ⟨_, he, rfl⟩
    obtain ⟨f0, f1, f2, f3, f4, f5⟩ := hf it (by simp)
    unfold pyNext
    refine wpAny_bind (wpAny_attempt (wpAny_callSpecial?_slot (name := Str.ofString "__next__") hT F.slot_enumerate_next ?_))
    refine wpAny_call_entry F.slot_enumerate_next hT F.entry_enumerate_next ?_ (F.args_enumerate_next_1 _)
    show wpAny _ _ (field (.ref e) 2 >>= _) _ _ _
    refine wpAny_bind (wpAny_field he rfl (x := .ref it) rfl ?_)
    refine wpAny_bind (tupNextEnd (by exact I.ok.hd hc) hit tp' (by simp; omega) fun h' x ext hex => ?_)
    obtain ⟨o, g1, g2⟩ := hex
    refine wpAny_bind (wpAny_isInstance (T := "StopIteration") (b := true) ⟨o, g1, g2⟩ isSubtype_stop ?_)
    exact wpAny_pure ⟨rfl, I.turned (t' := s.toks) (fun b ob nb q => ext b ob nb q) f0 f1 f3 f4 f5⟩
  self := fun _ _ _ _ _ st h => let ⟨⟨_, he⟩, _⟩ := st; wpAny_pyIter_enum he h
def iEnT (K : PySem.W.Frag) (ta : TA) : TI := fun σ H R => ta σ H fun vs H1 => ∃ a, vs = [.ref a] ∧ (∃ xs, SqT K H1 a xs) ∧ R (Ite K a) H1
theorem pi_enumT {X : Cx} {l : Expr} {ta : TA} {elts : List Expr} {kx : Nat} {px p pos : Pos} (hg : Gl X "enumerate") (hm : X.mg "enumerate" = none) (ha : PA X [l] ta) (hs : starEach [l] X.env = [(false, eval l X.env)] := by rfl) :
    PI X (.Tuple elts kx px) (.Call (.Name "enumerate" p) [l] [] pos) (iEnT X.K ta) := by
  intro pins s σ H R I h
  refine Call_ (ld_blt I hg hm boot_enumerate (PyProof.Rows.callWith_type1 (thn (ha pos pins s σ H _ I h) fun us s1 ⟨vs, H1, I1, r1, q1⟩ => ?_) hs rfl))
  obtain ⟨a, e, ⟨xs, hq⟩, q⟩ := q1
  subst e
  cases r1 with
  | cons r rr =>
    cases rr
    cases r
    obtain ⟨its, rv, tp, hz⟩ := I1.tuple hq
    refine enumCallT (show s1.heap.IsTuple a its.toArray from tp) fun h' he hit hsz hk => ?_
    refine wpAny_pyIter_enum he ?_
    refine ⟨s1.heap.objs.size + 1, [s1.heap.objs.size + 1, s1.heap.objs.size], _, _, H1, rfl, I1.kept (t' := s1.toks) hk, turn_enumT a _ _ (Nat.succ_ne_self _), ⟨⟨_, he⟩, hit⟩, fun b hb => ?_, q⟩
    rcases List.mem_cons.mp hb with rfl | hb
    · exact I1.fpOk (Nat.le_succ _) (I1.hok.fresh (Nat.le_succ _))
    · obtain rfl := List.mem_singleton.mp hb
      exact I1.fpOk (Nat.le_refl _) (I1.hok.fresh (Nat.le_refl _))
theorem for_enumT {K : PySem.W.Frag} {a : Addr} {xs : List V} {g : TG} {tb : TS} {D : Ends} {σ : St} {H : Hp} (Pv : Nat → St → Hp → Prop) (h0 : Pv 0 σ H) (hl : ∀ i σ H, i ≤ xs.length → Pv i σ H → SqT K H a xs)
    (hs : ∀ i x σ H p, xs[i]? = some x → Pv i σ H → H p = none → g (.ref p) σ (upd H p (.tup [.int i, x])) fun σ2 H2 => tb { D with nx := Pv (i + 1), ct := Pv (i + 1), bk := D.nx } σ2 H2) (hd : ∀ σ H, Pv xs.length σ H → D.nx σ H) :
    ∃ W : Nat → Nat → St → Hp → Prop, (∃ m, W 0 m σ H) ∧ ∀ i m σ H, W i m σ H →
      ((Ite K a).stop i H ∧ D.nx σ H) ∨ ((Ite K a).go i H ∧ ∃ N : St → Hp → Prop, (∀ σ' H', N σ' H' → ∃ m', m' < m ∧ W (i + 1) m' σ' H') ∧ ∀ x H', (Ite K a).yld i H x H' → g x σ H' fun σ2 H2 => tb { D with nx := N, ct := N, bk := D.nx } σ2 H2) := by
  refine ⟨fun i m σ H => m = xs.length - i ∧ i ≤ xs.length ∧ Pv i σ H, ⟨xs.length, by simp, Nat.zero_le _, h0⟩, ?_⟩
  rintro i m σ H ⟨rfl, hi, p⟩
  have q := hl i σ H hi p
  by_cases hlt : i < xs.length
  · refine .inr ⟨⟨xs, xs[i], q, by simp [hlt]⟩, Pv (i + 1), fun σ' H' p' => ⟨xs.length - (i + 1), by omega, rfl, hlt, p'⟩, fun x H' y => ?_⟩
    obtain ⟨pp, v, hn, e1, e2, y⟩ := y
    subst e1 e2
    exact hs i v σ H pp (y xs q) p hn
  · have e : i = xs.length := by omega
    subst e
    exact .inl ⟨⟨xs, q, Nat.le_refl _⟩, hd σ H p⟩
end L2
set_option Elab.async false
set_option linter.all false
set_option maxRecDepth 100000
namespace L2
open PySem PySem.Spec PyProof.Rows
theorem getD_at {α : Type} {xs : List α} {i : Nat} {d : α} (h : i < xs.length) : xs.getD i d = xs[i] := by
  rw [List.getD_eq_getElem?_getD, List.getElem?_eq_getElem h]
  rfl
section
variable {X : Cx}
theorem nums_of {ns : List Int} {its : List Value} (r : Vals (ns.map V.int) its) : ∀ (i : Nat) (v : Value), its.toArray[i]? = some v → ∃ t, v = Value.int (ns.getD i 0) t := by
  intro i v e
  rw [List.getElem?_toArray] at e
  have hl := r.length
  have hi : i < its.length := (List.getElem?_eq_some_iff.mp e).1
  rw [List.length_map] at hl
  have hx : (ns.map V.int)[i]? = some (.int (ns.getD i 0)) := by
    rw [List.getElem?_map, List.getElem?_eq_getElem (by omega)]
    simp [List.getD, show i < ns.length by omega]
  obtain ⟨u, hu, ru⟩ := r.get hx
  rw [e] at hu
  cases hu
  exact ru
theorem tup_walk {P : Nat → Value → Prop} {pins : List (Addr × Obj)} {σ : St} {H : Hp} {s : Shared} {a : Addr} {its : List Value} (I : Inv X pins σ H s) (tp : IsTup s.heap a its.toArray) (hc : X.calm = true) {Q : Value → Shared → Prop}
    (q : ∀ s2 : Shared, s2 = { s with heap := s.heap.push { cls := .type "tuple_iterator", data := .fields #[.ref a, .int 0 0] } } → Walks X.prog X.w X.A.in1 s.heap.objs.size [s.heap.objs.size, a] [s.heap.objs.size] its.toArray.size (fun i v => its.toArray[i]? = some v) (fun i h => h.IsTupleIter s.heap.objs.size a i ∧ h.IsTuple a its.toArray) →
      (s2.heap.IsTupleIter s.heap.objs.size a 0 ∧ s2.heap.IsTuple a its.toArray) → (∀ b ∈ [s.heap.objs.size, a], b < s2.heap.objs.size) → Q (.ref s.heap.objs.size) s2) : wpAny (model X.prog X.w) X.A.in1 (pyIter (.ref a)) Q X.xe s := by
  have tp' : s.heap.IsTuple a its.toArray := tp
  have hlt : a < s.heap.objs.size := by obtain ⟨_, e, _⟩ := tp'; exact Heap.lt_size e
  refine wpAny_pyIter_tuple tp' (q _ rfl (Walks.tuple (by exact I.ok.hd hc) _ _ (Nat.ne_of_lt hlt) _) ⟨⟨_, Heap.get?_push_size _ rfl, rfl, rfl⟩, ?_⟩ fun b hb => ?_)
  · obtain ⟨o, e, r⟩ := tp'
    exact ⟨o, Heap.get?_push_of_some _ e, r⟩
  · show b < (s.heap.push _).objs.size
    rw [Heap.size_push]
    rcases List.mem_cons.mp hb with rfl | hb
    · exact Nat.lt_succ_self _
    · rw [List.mem_singleton.mp hb]
      exact Nat.lt_succ_of_lt hlt
theorem best_mem {ns : List Int} {k : Nat} (h : k < ns.length) : ns.getD k 0 ∈ ns := by
  rw [getD_at h]
  exact List.getElem_mem h
theorem mem_at {ns : List Int} {z : Int} (h : z ∈ ns) : ∃ j, j < ns.length ∧ ns.getD j 0 = z := by
  obtain ⟨j, hj, e⟩ := List.mem_iff_getElem.mp h
  exact ⟨j, hj, by rw [getD_at hj]; exact e⟩
theorem call_minT (hc : X.calm = true) : CallR X (.builtin "min") (fun xs H Q => ∃ (a : Addr) (ns : List Int), xs = [.ref a] ∧ SqT X.K H a (ns.map V.int) ∧ 0 < ns.length ∧ ∀ M, M ∈ ns → (∀ z ∈ ns, M ≤ z) → Q (.int M) H) := by
  intro pins s σ H xs us Q I r h
  obtain ⟨a, ns, rfl, hq, hn, q⟩ := h
  obtain ⟨u, rfl, ru⟩ := vals1 r
  cases ru
  obtain ⟨its, rv, tp, hz⟩ := I.tuple hq
  have hl := rv.length
  rw [List.length_map] at hl
  refine call_min_walk (tup_walk (P := fun _ _ => True) I tp hc fun s2 e W st hfp => ?_)
  subst e
  refine ⟨_, _, _, _, _, _, _, rfl, W, st, hfp, by simp; omega, CmpOf.ints_lt (fun i => ns.getD i 0) (nums_of rv), fun v h' tk hP hk => ?_⟩
  obtain ⟨t, rfl⟩ := nums_of rv _ _ hP
  obtain ⟨b1, b2⟩ := argBest_lt (fun i => ns.getD i 0) (its.toArray.size - 1)
  rw [List.size_toArray] at b1 b2
  refine ⟨.int _, H, I.kept (t' := tk) fun b o e => hk b o (fun m => ?_) (Heap.get?_push_of_some _ e), ⟨t, rfl⟩, q _ (best_mem ?_) fun z hz => ?_⟩
  · have := Heap.lt_size e
    rw [List.mem_singleton.mp m] at this
    exact Nat.lt_irrefl _ this
  · rw [List.size_toArray]; omega
  · obtain ⟨j, hj, e⟩ := mem_at hz
    rw [← e, List.size_toArray]
    exact b2 j (by omega)
theorem call_maxT (hc : X.calm = true) : CallR X (.builtin "max") (fun xs H Q => ∃ (a : Addr) (ns : List Int), xs = [.ref a] ∧ SqT X.K H a (ns.map V.int) ∧ 0 < ns.length ∧ ∀ M, M ∈ ns → (∀ z ∈ ns, z ≤ M) → Q (.int M) H) := by
  intro pins s σ H xs us Q I r h
  obtain ⟨a, ns, rfl, hq, hn, q⟩ := h
  obtain ⟨u, rfl, ru⟩ := vals1 r
  cases ru
  obtain ⟨its, rv, tp, hz⟩ := I.tuple hq
  have hl := rv.length
  rw [List.length_map] at hl
  refine call_max_walk (tup_walk (P := fun _ _ => True) I tp hc fun s2 e W st hfp => ?_)
  subst e
  refine ⟨_, _, _, _, _, _, _, rfl, W, st, hfp, by simp; omega, CmpOf.ints_gt (fun i => ns.getD i 0) (nums_of rv), fun v h' tk hP hk => ?_⟩
  obtain ⟨t, rfl⟩ := nums_of rv _ _ hP
  obtain ⟨b1, b2⟩ := argBest_gt (fun i => ns.getD i 0) (its.toArray.size - 1)
  rw [List.size_toArray] at b1 b2
  refine ⟨.int _, H, I.kept (t' := tk) fun b o e => hk b o (fun m => ?_) (Heap.get?_push_of_some _ e), ⟨t, rfl⟩, q _ (best_mem ?_) fun z hz => ?_⟩
  · have := Heap.lt_size e
    rw [List.mem_singleton.mp m] at this
    exact Nat.lt_irrefl _ this
  · rw [List.size_toArray]; omega
  · obtain ⟨j, hj, e⟩ := mem_at hz
    rw [← e, List.size_toArray]
    exact b2 j (by omega)
theorem val_at {xs : List V} {us : List Value} (r : Vals xs us) {j : Nat} (h1 : j < us.length) : RelV (xs.getD j .non) us[j] := by
  have hl := r.length
  obtain ⟨u, hu, ru⟩ := r.get (i := j) (x := xs.getD j .non) (by rw [List.getElem?_eq_getElem (by omega), getD_at (by omega)])
  rw [List.getElem?_eq_getElem h1] at hu
  cases hu
  exact ru
end
end L2
set_option linter.all false
namespace Srt
open PySem.W PyProof.Rows
def Run (key : Nat → Int) (n : Nat) {α : Type} (Q : α → Prop) : KasT α → Prop
  | .ret a => Q a
  | .ask i j k => i < n ∧ j < n ∧ Run key n Q (k (decide (key i < key j)))
theorem Run.mono {key : Nat → Int} {n : Nat} {α : Type} {Q Q' : α → Prop} (h : ∀ a, Q a → Q' a) : ∀ (t : KasT α), Run key n Q t → Run key n Q' t
  | .ret a, x => h a x
  | .ask _ _ k, ⟨a, b, x⟩ => ⟨a, b, Run.mono h _ x⟩
theorem Run.bind {key : Nat → Int} {n : Nat} {α β : Type} {Q : β → Prop} {f : α → KasT β} : ∀ (t : KasT α), Run key n (fun a => Run key n Q (f a)) t → Run key n Q (t.bind f)
  | .ret a, x => x
  | .ask _ _ k, ⟨a, b, x⟩ => ⟨a, b, Run.bind _ x⟩
theorem n1 {m f n : Nat} (h : m + (f + 1) ≤ n) : m < n := Nat.lt_of_lt_of_le (Nat.lt_add_of_pos_right (Nat.succ_pos f)) h
theorem n2 {m f n : Nat} (h : m + (f + 1) ≤ n) : m - 1 < n := Nat.lt_of_le_of_lt (Nat.sub_le m 1) (n1 h)
theorem n3 (m f : Nat) : m + 1 + f = m + (f + 1) := by rw [Nat.add_assoc, Nat.add_comm 1 f]
theorem n3' {m f n : Nat} (h : m + (f + 1) ≤ n) : m + 1 + f ≤ n := (n3 m f).symm ▸ h
theorem n4 {i m : Nat} (h : i < m + 1) (e : ¬ i = m) : i < m := Nat.lt_of_le_of_ne (Nat.le_of_lt_succ h) e
theorem n6 {r m f : Nat} (h : r ≤ m + 1 + f) : r ≤ m + (f + 1) := n3 m f ▸ h
theorem n7 {r m f : Nat} (h : r = m + 1 + f) : r = m + (f + 1) := n3 m f ▸ h
theorem n8 {i m : Nat} (a : m ≤ i) (b : i < m + 1) : i = m := Nat.le_antisymm (Nat.le_of_lt_succ b) a
section
variable {key : Nat → Int} {n : Nat}
structure Ord (n : Nat) (p : Array Nat) : Prop where
  sz : p.size = n
  pm : p.Perm (List.toArray (List.range n))
theorem Ord.lt {p : Array Nat} (o : Ord n p) {i : Nat} (h : i < n) : p.getD i 0 < n := by
  have hi : i < p.size := by rw [o.sz]; exact h
  have e : p.getD i 0 = p[i] := by simp [Array.getD, hi]
  have m : p[i] ∈ p := Array.getElem_mem hi
  have m2 : p[i] ∈ (List.toArray (List.range n)) := (Array.Perm.mem_iff o.pm).mp m
  rw [e]
  simpa using m2
def kv (key : Nat → Int) (p : Array Nat) (i : Nat) : Int := key (p.getD i 0)
theorem kv_congr {p q : Array Nat} {i j : Nat} (h : p[i]? = q[j]?) : kv key p i = kv key q j := by
  unfold kv
  rw [Array.getD_eq_getD_getElem?, Array.getD_eq_getD_getElem?, h]
theorem Ord.rev {p : Array Nat} (o : Ord n p) (i j : Nat) : Ord n (kas_rev p i j) := ⟨by unfold kas_rev; rw [mirror_size]; exact o.sz, (mirror_perm _ _ _ _).trans o.pm⟩
theorem Ord.bub {p : Array Nat} (o : Ord n p) (i j : Nat) : Ord n (bubble p i j) := ⟨by rw [bubble_size]; exact o.sz, (bubble_perm _ _ _).trans o.pm⟩
theorem kv_rev {p : Array Nat} {i j : Nat} (hj : j ≤ p.size) (k : Nat) : kv key (kas_rev p i j) k = if i ≤ k ∧ k < j then kv key p (i + j - 1 - k) else kv key p k := by
  have e := getElem?_mirror_all (i := i) hj k
  unfold kas_rev
  by_cases h : i ≤ k ∧ k < j
  · rw [if_pos h] at e ⊢; exact kv_congr e
  · rw [if_neg h] at e ⊢; exact kv_congr e
theorem kv_bub {p : Array Nat} {src d : Nat} (hs : src < p.size) (hd : d ≤ src) (k : Nat) : kv key (bubble p src d) k = if k = src - d then kv key p src else if src - d < k ∧ k ≤ src then kv key p (k - 1) else kv key p k := by
  have e := getElem?_bubble hs d hd k
  by_cases h1 : k = src - d
  · rw [if_pos h1] at e ⊢; exact kv_congr e
  · rw [if_neg h1] at e ⊢
    by_cases h2 : src - d < k ∧ k ≤ src
    · rw [if_pos h2] at e ⊢; exact kv_congr e
    · rw [if_neg h2] at e ⊢; exact kv_congr e
def Up (key : Nat → Int) (p : Array Nat) (m : Nat) : Prop := ∀ i, 1 ≤ i → i < m → kv key p (i - 1) ≤ kv key p i
def Down (key : Nat → Int) (p : Array Nat) (m : Nat) : Prop := ∀ i, 1 ≤ i → i < m → kv key p i ≤ kv key p (i - 1)
theorem Up.le {p : Array Nat} {m : Nat} (u : Up key p m) : ∀ {i j : Nat}, i ≤ j → j < m → kv key p i ≤ kv key p j := by
  intro i j h hj
  induction j with
  | zero => have : i = 0 := Nat.le_zero.mp h
            subst this; exact Int.le_refl _
  | succ j ih =>
    by_cases e : i = j + 1
    · subst e; exact Int.le_refl _
    · exact Int.le_trans (ih (Nat.le_of_lt_succ (Nat.lt_of_le_of_ne h e)) (Nat.lt_of_succ_lt hj)) (u (j + 1) (Nat.succ_le_succ (Nat.zero_le j)) hj)
theorem Down.le {p : Array Nat} {m : Nat} (u : Down key p m) : ∀ {i j : Nat}, i ≤ j → j < m → kv key p j ≤ kv key p i := by
  intro i j h hj
  induction j with
  | zero => have : i = 0 := Nat.le_zero.mp h
            subst this; exact Int.le_refl _
  | succ j ih =>
    by_cases e : i = j + 1
    · subst e; exact Int.le_refl _
    · exact Int.le_trans (u (j + 1) (Nat.succ_le_succ (Nat.zero_le j)) hj) (ih (Nat.le_of_lt_succ (Nat.lt_of_le_of_ne h e)) (Nat.lt_of_succ_lt hj))
theorem run_asc {p : Array Nat} (o : Ord n p) : ∀ (f m : Nat), 1 ≤ m → m + f ≤ n → Up key p m → Run key n (fun r => m ≤ r ∧ r ≤ m + f ∧ Up key p r ∧ (r = m + f ∨ (r < n ∧ kv key p r < kv key p (r - 1)))) (kas_asc p f m)
  | 0, m, h1, h2, u => ⟨Nat.le_refl _, Nat.le_refl _, u, .inl rfl⟩
  | f + 1, m, h1, h2, u => by
    refine ⟨o.lt (n1 h2), o.lt (n2 h2), ?_⟩
    by_cases c : key (p.getD m 0) < key (p.getD (m - 1) 0)
    · rw [decide_eq_true c]; dsimp only; (try rw [if_pos rfl])
      exact ⟨Nat.le_refl _, Nat.le_add_right _ _, u, .inr ⟨n1 h2, c⟩⟩
    · rw [decide_eq_false c]; dsimp only; (try rw [if_neg Bool.false_ne_true])
      have u' : Up key p (m + 1) := fun i i1 i2 => by
        by_cases e : i = m
        · subst e; exact Int.not_lt.mp c
        · exact u i i1 (n4 i2 e)
      refine Run.mono (fun r ⟨a, b, d, e⟩ => ⟨Nat.le_of_succ_le a, n6 b, d, ?_⟩) _ (run_asc o f (m + 1) (Nat.succ_le_succ (Nat.zero_le m)) (n3' h2) u')
      rcases e with e | e
      · exact .inl (n7 e)
      · exact .inr e
def Flat (key : Nat → Int) (p : Array Nat) (m q : Nat) : Prop := q + 1 ≤ m ∧ ∀ i, m - (q + 1) ≤ i → i < m → kv key p i = kv key p (m - 1)
theorem flat_rev {p : Array Nat} {m q : Nat} (hm : m ≤ p.size) (f : Flat key p m q) (k : Nat) : kv key (kas_rev p (m - (q + 1)) m) k = kv key p k := by
  rw [kv_rev hm]
  split
  · rename_i h
    rw [f.2 k h.1 h.2, f.2 _ (by omega) (by omega)]
  · rfl
theorem run_desc : ∀ (f : Nat) (p : Array Nat) (m q : Nat), Ord n p → m + f ≤ n → Down key p m → Flat key p m q →
    Run key n (fun r => Ord n r.1 ∧ m ≤ r.2.1 ∧ r.2.1 ≤ n ∧ Down key r.1 r.2.1 ∧ Flat key r.1 r.2.1 r.2.2) (kas_desc f p m q)
  | 0, p, m, q, o, h, d, fl => ⟨o, Nat.le_refl _, h, d, fl⟩
  | f + 1, p, m, q, o, h, d, fl => by
    have h1 : 1 ≤ m := Nat.le_trans (Nat.succ_le_succ (Nat.zero_le q)) fl.1
    refine ⟨o.lt (n1 h), o.lt (n2 h), ?_⟩
    by_cases c : key (p.getD m 0) < key (p.getD (m - 1) 0)
    · rw [decide_eq_true c]; dsimp only; (try rw [if_pos rfl])
      by_cases hq : q > 0
      · rw [if_pos hq]
        have kr := flat_rev (key := key) (p := p) (m := m) (q := q) (by rw [o.sz]; exact Nat.le_of_lt (n1 h)) fl
        refine Run.mono (fun r ⟨a, b, e⟩ => ⟨a, Nat.le_of_succ_le b, e⟩) _ (run_desc f _ (m + 1) 0 (o.rev _ _) (n3' h) (fun i i1 i2 => ?_) ⟨Nat.succ_le_succ (Nat.zero_le m), fun i i1 i2 => ?_⟩)
        · rw [kr, kr]
          by_cases e : i = m
          · subst e; exact Int.le_of_lt c
          · exact d i i1 (n4 i2 e)
        · have : i = m := n8 i1 i2
          subst this; rfl
      · rw [if_neg hq]
        refine Run.mono (fun r ⟨a, b, e⟩ => ⟨a, Nat.le_of_succ_le b, e⟩) _ (run_desc f _ (m + 1) 0 o (n3' h) (fun i i1 i2 => ?_) ⟨Nat.succ_le_succ (Nat.zero_le m), fun i i1 i2 => ?_⟩)
        · by_cases e : i = m
          · subst e; exact Int.le_of_lt c
          · exact d i i1 (n4 i2 e)
        · have : i = m := n8 i1 i2
          subst this; rfl
    · rw [decide_eq_false c]; dsimp only; (try rw [if_neg Bool.false_ne_true])
      refine ⟨o.lt (n2 h), o.lt (n1 h), ?_⟩
      by_cases c2 : key (p.getD (m - 1) 0) < key (p.getD m 0)
      · rw [decide_eq_true c2]; dsimp only; (try rw [if_pos rfl])
        exact ⟨o, Nat.le_refl _, Nat.le_of_lt (n1 h), d, fl⟩
      · rw [decide_eq_false c2]; dsimp only; (try rw [if_neg Bool.false_ne_true])
        have ee : kv key p m = kv key p (m - 1) := Int.le_antisymm (Int.not_lt.mp c2) (Int.not_lt.mp c)
        refine Run.mono (fun r ⟨a, b, e⟩ => ⟨a, Nat.le_of_succ_le b, e⟩) _ (run_desc f _ (m + 1) (q + 1) o (n3' h) (fun i i1 i2 => ?_) ⟨Nat.succ_le_succ fl.1, fun i i1 i2 => ?_⟩)
        · by_cases e : i = m
          · subst e; rw [ee]; exact Int.le_refl _
          · exact d i i1 (n4 i2 e)
        · show kv key p i = kv key p m
          by_cases e : i = m
          · subst e; rfl
          · rw [ee]; exact fl.2 i (by rw [Nat.succ_sub_succ] at i1; exact i1) (n4 i2 e)
def Good (key : Nat → Int) (n : Nat) (r : Nat × Array Nat) : Prop := Ord n r.2 ∧ 1 ≤ r.1 ∧ r.1 ≤ n ∧ Up key r.2 r.1
theorem run_tail3 {p : Array Nat} {m : Nat} (o : Ord n p) (h1 : 1 ≤ m) (h : m ≤ n) (d : Down key p m) : Run key n (Good key n) (kas_tail3 m n p) := by
  have e9 : m + (n - m) = n := Nat.add_sub_cancel' h
  refine Run.bind _ (Run.mono (fun r ⟨a, b, e, _⟩ => ⟨o.rev _ _, Nat.le_trans h1 a, Nat.le_trans b (Nat.le_of_eq e9), e⟩) _ (run_asc (o.rev 0 m) (n - m) m h1 (Nat.le_of_eq e9) fun i i1 i2 => ?_))
  have i3 : i - 1 < m := Nat.lt_of_le_of_lt (Nat.sub_le i 1) i2
  rw [kv_rev (by rw [o.sz]; exact h), kv_rev (by rw [o.sz]; exact h), if_pos ⟨Nat.zero_le _, i3⟩, if_pos ⟨Nat.zero_le _, i2⟩]
  exact d.le (Nat.sub_le_sub_left (Nat.sub_le i 1) _) (Nat.lt_of_le_of_lt (Nat.sub_le _ _) (by rw [Nat.zero_add]; exact Nat.sub_lt h1 Nat.one_pos))
theorem run_descPart {p : Array Nat} {m : Nat} (o : Ord n p) (h1 : 1 ≤ m) (h : m + 1 ≤ n) (d : Down key p (m + 1)) : Run key n (Good key n) (kas_descPart m n p) := by
  have fl0 : Flat key p (m + 1) 0 := ⟨Nat.succ_le_succ (Nat.zero_le m), fun i i1 i2 => by
    have e : i = m := n8 i1 i2
    rw [e]; rfl⟩
  refine Run.bind _ (Run.mono (fun r ⟨a, b, c, e, f⟩ => ?_) _ (run_desc (n - (m + 1)) p (m + 1) 0 o (by rw [Nat.add_sub_cancel' h]; exact Nat.le_refl _) d fl0))
  by_cases q : r.2.2 > 0
  · rw [if_pos q]
    have kr := flat_rev (key := key) (p := r.1) (m := r.2.1) (q := r.2.2) (by rw [a.sz]; exact c) f
    exact run_tail3 (a.rev _ _) (Nat.le_trans (Nat.succ_le_succ (Nat.zero_le m)) b) c fun i i1 i2 => by rw [kr, kr]; exact e i i1 i2
  · rw [if_neg q]
    exact run_tail3 a (Nat.le_trans (Nat.succ_le_succ (Nat.zero_le m)) b) c e
theorem run_count {p : Array Nat} (o : Ord n p) (h : 1 ≤ n) : Run key n (Good key n) (kas_count n p) := by
  refine Run.bind _ (Run.mono (fun r ⟨a, b, c, e⟩ => ?_) _ (run_asc o (n - 1) 1 (Nat.le_refl _) (by rw [Nat.add_sub_cancel' h]; exact Nat.le_refl _) fun i i1 i2 => absurd i1 (Nat.not_le.mpr i2)))
  have h9 : 1 + (n - 1) = n := Nat.add_sub_cancel' h
  rw [h9] at b e
  by_cases q : (r == n) = true
  · rw [if_pos q]
    exact ⟨o, a, b, c⟩
  · rw [if_neg q]
    have q' : r ≠ n := fun z => q (by rw [z]; exact beq_self_eq_true n)
    have e' : r < n ∧ kv key p r < kv key p (r - 1) := by
      rcases e with e | e
      · exact absurd e q'
      · exact e
    split
    · rename_i hr
      refine ⟨o.lt h, o.lt (Nat.lt_of_le_of_lt (Nat.sub_le r 1) e'.1), ?_⟩
      by_cases c2 : key (p.getD 0 0) < key (p.getD (r - 1) 0)
      · rw [decide_eq_true c2]; dsimp only; (try rw [if_pos rfl])
        exact ⟨o, a, b, c⟩
      · rw [decide_eq_false c2]; dsimp only; (try rw [if_neg Bool.false_ne_true])
        have fl : ∀ i, i < r → kv key p i = kv key p 0 := fun i hi => by
          have x1 := c.le (i := 0) (j := i) (Nat.zero_le i) hi
          have x2 := c.le (i := i) (j := r - 1) (Nat.le_sub_one_of_lt hi) (Nat.sub_lt a Nat.one_pos)
          have x3 : kv key p (r - 1) ≤ kv key p 0 := Int.not_lt.mp c2
          exact Int.le_antisymm (Int.le_trans x2 x3) x1
        have kr : ∀ k, kv key (kas_rev p 0 r) k = kv key p k := fun k => by
          rw [kv_rev (by rw [o.sz]; exact b)]
          split
          · rename_i hk
            rw [fl _ (Nat.lt_of_le_of_lt (Nat.sub_le _ k) (by rw [Nat.zero_add]; exact Nat.sub_lt a Nat.one_pos)), fl k hk.2]
          · rfl
        refine run_descPart (o.rev _ _) a e'.1 fun i i1 i2 => ?_
        rw [kr, kr]
        by_cases z : i = r
        · subst z; exact Int.le_of_lt e'.2
        · rw [fl i (n4 i2 z), fl (i - 1) (Nat.lt_of_le_of_lt (Nat.sub_le i 1) (n4 i2 z))]; exact Int.le_refl _
    · have hr : r = 1 := by omega
      refine run_descPart o a e'.1 fun i i1 i2 => ?_
      have : i = r := by omega
      subst this
      exact Int.le_of_lt e'.2
theorem mid_ {l r : Nat} (h : l < r) : (l + r) / 2 < r ∧ l ≤ (l + r) / 2 := by omega
theorem half1 {l r f m : Nat} (a : m < r) (h : r - l ≤ f + 1) : m - l ≤ f := by omega
theorem half2 {l r f m : Nat} (a : l ≤ m) (h : r - l ≤ f + 1) : r - (m + 1) ≤ f := by omega
theorem run_place {p : Array Nat} {k : Nat} (o : Ord n p) (hk : k < n) (u : Up key p k) : ∀ (f l r : Nat), l ≤ r → r ≤ k → r - l ≤ f → (∀ i, i < l → kv key p i ≤ kv key p k) → (∀ i, r ≤ i → i < k → kv key p k < kv key p i) →
    Run key n (fun m => m ≤ k ∧ (∀ i, i < m → kv key p i ≤ kv key p k) ∧ (∀ i, m ≤ i → i < k → kv key p k < kv key p i)) (kas_place p k f l r)
  | 0, l, r, h1, h2, h3, a, b => ⟨Nat.le_trans h1 h2, a, fun i i1 i2 => b i (Nat.le_trans (Nat.le_of_sub_eq_zero (Nat.le_zero.mp h3)) i1) i2⟩
  | f + 1, l, r, h1, h2, h3, a, b => by
    unfold kas_place
    by_cases c : l ≥ r
    · rw [if_pos c]
      exact ⟨Nat.le_trans h1 h2, a, fun i i1 i2 => b i (Nat.le_trans c i1) i2⟩
    · rw [if_neg c]
      have hm : (l + r) / 2 < r ∧ l ≤ (l + r) / 2 := mid_ (Nat.not_le.mp c)
      have hmk := Nat.lt_of_lt_of_le hm.1 h2
      refine ⟨o.lt hk, o.lt (Nat.lt_trans hmk hk), ?_⟩
      by_cases c2 : key (p.getD k 0) < key (p.getD ((l + r) / 2) 0)
      · rw [decide_eq_true c2]; dsimp only; (try rw [if_pos rfl])
        refine run_place o hk u f l _ hm.2 (Nat.le_of_lt hmk) (half1 hm.1 h3) a fun i i1 i2 => ?_
        exact Int.lt_of_lt_of_le c2 (u.le i1 i2)
      · rw [decide_eq_false c2]; dsimp only; (try rw [if_neg Bool.false_ne_true])
        refine run_place o hk u f _ r hm.1 h2 (half2 hm.2 h3) (fun i i1 => ?_) b
        exact Int.le_trans (u.le (j := (l + r) / 2) (Nat.le_of_lt_succ i1) hmk) (Int.not_lt.mp c2)
theorem run_bin : ∀ (f : Nat) (p : Array Nat) (k : Nat), Ord n p → 1 ≤ k → k + f = n → Up key p k → Run key n (fun r => Ord n r ∧ Up key r n) (kas_bin f p k)
  | 0, p, k, o, h1, h, u => by
    have : k = n := h
    subst this
    exact ⟨o, u⟩
  | f + 1, p, k, o, h1, h, u => by
    have hk : k < n := n1 (Nat.le_of_eq h)
    refine Run.bind _ (Run.mono (fun m ⟨a, b, c⟩ => ?_) _ (run_place o hk u k 0 k (Nat.zero_le k) (Nat.le_refl _) (Nat.sub_le k 0) (fun i hi => absurd hi (Nat.not_lt_zero i)) fun i i1 i2 => absurd i1 (Nat.not_le.mpr i2)))
    refine run_bin f _ (k + 1) (o.bub _ _) (Nat.succ_le_succ (Nat.zero_le k)) ((n3 k f).trans h) fun i i1 i2 => ?_
    rw [kv_bub (by rw [o.sz]; exact hk) (Nat.sub_le k m), kv_bub (by rw [o.sz]; exact hk) (Nat.sub_le k m), Nat.sub_sub_self a]
    have ik : i ≤ k := Nat.le_of_lt_succ i2
    have il : i - 1 < i := Nat.sub_lt i1 Nat.one_pos
    rcases Nat.lt_trichotomy i m with q | q | q
    · rw [if_neg (Nat.ne_of_lt (Nat.lt_trans il q)), if_neg (fun z => Nat.lt_asymm q (Nat.lt_trans z.1 il)), if_neg (Nat.ne_of_lt q), if_neg (fun z => Nat.lt_asymm q z.1)]
      exact u i i1 (Nat.lt_of_lt_of_le q a)
    · subst q
      rw [if_neg (Nat.ne_of_lt il), if_neg (fun z => Nat.lt_asymm il z.1), if_pos rfl]
      exact b _ il
    · rw [if_neg (show ¬ i = m from Nat.ne_of_gt q), if_pos (show m < i ∧ i ≤ k from ⟨q, ik⟩)]
      by_cases z : i - 1 = m
      · rw [if_pos z, z]
        exact Int.le_of_lt (c m (Nat.le_refl _) (Nat.lt_of_lt_of_le q ik))
      · have w := Nat.lt_of_le_of_ne (Nat.le_sub_one_of_lt q) (Ne.symm z)
        rw [if_neg z, if_pos ⟨w, Nat.le_of_lt (Nat.lt_of_lt_of_le il ik)⟩]
        exact u (i - 1) (Nat.le_trans (Nat.succ_le_succ (Nat.zero_le m)) w) (Nat.lt_of_lt_of_le il ik)
theorem run_sort (h : 1 ≤ n) : Run key n (fun r => Ord n r ∧ Up key r n) (kas_sort n) := by
  refine Run.bind _ (Run.mono (fun r ⟨a, b, c, d⟩ => ?_) _ (run_count ⟨by simp, Array.Perm.refl _⟩ h))
  split
  · have e : max r.1 1 = r.1 := by omega
    rw [e]
    exact run_bin _ _ _ a b (by omega) d
  · have e : r.1 = n := by omega
    rw [e] at d
    exact ⟨a, d⟩
end
end Srt
set_option Elab.async false
set_option linter.all false
set_option maxRecDepth 100000
namespace L2
open PySem PySem.Spec PyProof.Rows PySem.W
def lexKey (B : Int) (kz : List (Int × Int)) (i : Nat) : Int := (kz.getD i (0, 0)).1 * B + (kz.getD i (0, 0)).2
theorem lex_lt {B a b c d : Int} (hb : 0 ≤ b ∧ b < B) (hd : 0 ≤ d ∧ d < B) : (a * B + b < c * B + d) ↔ (a < c ∨ (a = c ∧ b < d)) := by
  have hB : 0 < B := by omega
  constructor
  · intro h
    by_cases e : a = c
    · subst e; exact .inr ⟨rfl, by omega⟩
    · refine .inl ?_
      refine Int.lt_of_not_ge fun g => ?_
      have g1 : c + 1 ≤ a := by omega
      have g2 := Int.mul_le_mul_of_nonneg_right g1 (Int.le_of_lt hB)
      rw [Int.add_mul, Int.one_mul] at g2
      omega
  · rintro (h | ⟨rfl, h⟩)
    · have g1 : a + 1 ≤ c := by omega
      have g2 := Int.mul_le_mul_of_nonneg_right g1 (Int.le_of_lt hB)
      rw [Int.add_mul, Int.one_mul] at g2
      omega
    · omega
theorem wp_of_run {key : Nat → Int} {n : Nat} {α : Type} {cmp : Nat → Nat → (Bool → Shared → Prop) → Shared → Prop} {s : Shared} {Q : α → Prop}
    (hc : ∀ i j C, i < n → j < n → C (decide (key i < key j)) s → cmp i j C s) : ∀ (t : KasT α), Srt.Run key n Q t → t.kasWp cmp (fun a s' => Q a ∧ s' = s) s
  | .ret a, x => ⟨x, rfl⟩
  | .ask i j k, ⟨h1, h2, x⟩ => hc i j _ h1 h2 (wp_of_run hc _ x)
structure KeysAt (H : Hp) (ks : List Value) (kz : List (Int × Int)) : Prop where
  len : ks.length = kz.length
  at_ : ∀ (i : Nat) (k : Value) (z : Int × Int), ks[i]? = some k → kz[i]? = some z → ∃ p, k = .ref p ∧ H p = some (.tup [.int z.1, .int z.2])
section
variable {X : Cx} {pins : List (Addr × Obj)} {σ : St} {H : Hp} {s : Shared}
theorem key_tup (I : Inv X pins σ H s) {p : Addr} {a b : Int} (h : H p = some (.tup [.int a, .int b])) : ∃ (o : Obj) (n : Nat) (t u : Tok), s.heap.get? p = some o ∧ o.cls = .type "tuple" ∧ o.data = .seq #[.int a t, .int b u] n := by
  obtain ⟨_, its, r, ⟨o, e, c, n, d⟩⟩ := I.hok p _ h
  cases r with
  | cons r1 rr =>
    cases rr with
    | cons r2 rr =>
      cases rr
      obtain ⟨t, rfl⟩ := r1
      obtain ⟨u, rfl⟩ := r2
      exact ⟨o, n, t, u, e, c, by simpa using d⟩
theorem key_less (I : Inv X pins σ H s) {A : Around} {p q : Addr} {a b c d : Int} (hp : H p = some (.tup [.int a, .int b])) (hq : H q = some (.tup [.int c, .int d])) {C : Bool → Shared → Prop} (h : C (decide (a < c ∨ (a = c ∧ b < d))) s) :
    wpAny (model X.prog X.w) A (keyLt' (tuples' true) (.ref p) (.ref q)) C (fun _ _ => False) s := by
  obtain ⟨o1, n1, t1, u1, e1, _, d1⟩ := key_tup I hp
  obtain ⟨o2, n2, t2, u2, e2, _, d2⟩ := key_tup I hq
  refine kat_lt e1 d1 e2 d2 ?_
  show KatLex _ _ _ true _ _ [(Value.int a t1, Value.int c t2), (Value.int b u1, Value.int d u2)] 0 s
  refine kat_cons (wpAny_eqBool_int ?_)
  by_cases e : a = c
  · subst e
    rw [beq_self_eq_true]
    refine kat_yes (kat_cons (wpAny_eqBool_int ?_))
    by_cases e' : b = d
    · subst e'
      rw [beq_self_eq_true]
      refine kat_yes (kat_nil ?_)
      have z : decide (a < a ∨ a = a ∧ b < b) = false := decide_eq_false (by omega)
      rw [z] at h
      exact h
    · rw [beq_eq_false_iff_ne.mpr e']
      refine kat_no (kat_one _ _ (lt_int ?_))
      have z : decide (a < a ∨ a = a ∧ b < d) = decide (b < d) := by
        rw [decide_eq_decide]; omega
      rw [z] at h
      exact h
  · rw [beq_eq_false_iff_ne.mpr e]
    refine kat_no (oneLt_int ?_)
    have z : decide (a < c ∨ a = c ∧ b < d) = decide (a < c) := by
      rw [decide_eq_decide]; omega
    rw [z] at h
    exact h
structure Young (X : Cx) (pins : List (Addr × Obj)) (b : Addr) : Prop where
  lo : b ≠ X.env.locals
  fs : b ∉ X.fs
  ge : b ∈ X.ex ∨ X.s₀.heap.objs.size ≤ b
  ce : ∀ x c, X.env.cells.lookup x = some c → c ≠ b
  pi : ∀ p ∈ X.pn ++ pins, p.1 ≠ b
theorem Inv.young (I : Inv X pins σ H s) {b : Addr} (hb : s.heap.objs.size ≤ b) : Young X pins b := by
  obtain ⟨_, a1, a2, a3, a4, a5⟩ := I.fpOk (b := b) hb (H' := fun _ => none) rfl
  exact ⟨a1, a2, a3, a4, a5⟩
theorem Inv.record (I : Inv X pins σ H s) {b : Addr} {h' : Heap} (y : Young X pins b) (hn : H b = none) (hs : Heap.SameBut b s.heap h') : Inv X pins σ H { s with heap := h' } :=
  I.turned (t' := s.toks) (fun c o nc e => (hs.2 c nc).trans e) hn y.lo y.ge y.ce y.pi
def SortPins (kS D : Addr) (ks : List Value) (e e1 : Nat) : List (Addr × Obj) := [(kS, seqObj "list" ks.toArray e), (D, seqObj "list" #[] e1)]
theorem Inv.sorting (I : Inv X pins σ H s) {kS D : Addr} {ks : List Value} {e e1 : Nat} (yk : Young X pins kS) (yD : Young X pins D) (hk : s.heap.get? kS = some (seqObj "list" ks.toArray e)) (hD : s.heap.get? D = some (seqObj "list" #[] e1)) (nk : H kS = none) (nD : H D = none) :
    Inv X (pins ++ SortPins kS D ks e e1) σ H s := I.pins_of fun p hp => by
  rcases List.mem_append.mp hp with hp | hp
  · exact I.pin p (List.mem_append_right _ hp)
  · rcases List.mem_cons.mp hp with rfl | hp
    · exact ⟨hk, nk, yk.lo, yk.fs, fun v z => by cases z⟩
    · obtain rfl := List.mem_singleton.mp hp
      exact ⟨hD, nD, yD.lo, yD.fs, fun v z => by cases z⟩
theorem sorted_pairs {E : Value → Shared → Prop} {Q : Value → Shared → Prop} (I : Inv X pins σ H s) {l f : Addr} {xs : List V} {kz : List (Int × Int)} {B : Int} (hl : SqL X.K H l xs) (h1 : 0 < xs.length) (h64 : xs.length < 64) (hkz : kz.length = xs.length) (hB : ∀ z ∈ kz, 0 ≤ z.2 ∧ z.2 < B)
    (Good : Hp → Prop) (hG : Good H)
    (turn : ∀ (pins' : List (Addr × Obj)) (i : Nat) (x : V) (v : Value) (z : Int × Int) (s' : Shared) (H' : Hp), xs[i]? = some x → kz[i]? = some z → RelV x v → Inv X pins' σ H' s' → Good H' →
      wpAny (model X.prog X.w) X.A.in1.in1 (call (.ref f) [v]) (fun k s'' => ∃ p H'', k = .ref p ∧ Inv X pins' σ H'' s'' ∧ Good H'' ∧ (∀ b o, H' b = some o → H'' b = some o) ∧ H'' p = some (.tup [.int z.1, .int z.2])) (fun _ _ => False) s')
    (q : ∀ (D : Addr) (p : Array Nat) (H' : Hp) (s' : Shared), Good H' → (∀ b o, H b = some o → H' b = some o) → H' D = none → Srt.Ord xs.length p → Srt.Up (lexKey B kz) p xs.length → Inv X pins σ (upd H' D (.lst (p.toList.map fun i => xs.getD i .non))) s' → Q (.ref D) s') :
    wpAny (model X.prog X.w) X.A (call (.builtin "sorted") [.ref l] [(Str.ofString "key", .ref f)]) Q E s := by
  obtain ⟨vs, rv, pl, hz⟩ := I.list hl
  have lv := rv.length
  have hsm : vs.length ≤ sizeLine := by omega
  refine call_function_entry_kw kind_sorted plain_sorted entry_sorted (ksk_s1 _ _) ?_
  unfold Builtin.«sorted»
  refine wpAny_bind (m := checkCount "sorted" 1 1 _) (wpAny_pure ?_)
  refine wpAny_bind (collect_list pl.isList ?_ hsm)
  refine wpAny_bind (wpAny_newList ?_ hsm)
  have z1 : ((s.heap.push (seqObj "list" #[] 0)).update s.heap.objs.size (Obj.mapSeq (· ++ vs.toArray))).objs.size = s.heap.objs.size + 1 := by rw [Heap.size_update, size_push']
  have keep1 : ∀ b o, s.heap.get? b = some o → (((s.heap.push (seqObj "list" #[] 0)).update s.heap.objs.size (Obj.mapSeq (· ++ vs.toArray))).push (seqObj "list" vs.toArray 0)).get? b = some o := fun b o e => by
    have hlt : b < s.heap.objs.size := Heap.lt_size e
    rw [Heap.get?_push_ne _ _ _ (by rw [z1]; exact Nat.ne_of_lt (Nat.lt_succ_of_lt hlt)), Heap.get?_update_ne _ _ _ _ (Nat.ne_of_lt hlt), Heap.get?_push_ne _ _ _ (Nat.ne_of_lt hlt)]
    exact e
  generalize hh1 : ((s.heap.push (seqObj "list" #[] 0)).update s.heap.objs.size (Obj.mapSeq (· ++ vs.toArray))).push (seqObj "list" vs.toArray 0) = h1' at keep1 ⊢
  have hD1 : h1'.get? (s.heap.objs.size + 1) = some (seqObj "list" vs.toArray 0) := by
    rw [← hh1, ← z1]; exact Heap.get?_push_size _ rfl
  have hs1 : s.heap.objs.size + 2 ≤ h1'.objs.size := by rw [← hh1, size_push', z1]; exact Nat.le_refl _
  show wpAny _ _ _ _ _ { s with heap := h1' }
  rw [z1]
  clear hh1
  have yD : Young X pins (s.heap.objs.size + 1) := I.young (Nat.le_succ _)
  have nD0 : H (s.heap.objs.size + 1) = none := I.hok.fresh (Nat.le_succ _)
  generalize hDD : s.heap.objs.size + 1 = D at hD1 yD nD0 ⊢
  have I1 : Inv X pins σ H { s with heap := h1' } := I.kept (t' := s.toks) keep1
  refine wpAny_bind (wpAny_holding (wpAny_call_entry_kw slot_list_sort ⟨_, hD1, rfl⟩ entry_list_sort ?body (ksk_l1 _ _)))
  case body =>
    show wpAny (model X.prog X.w) X.A.in1.in1 (Builtin.«list.sort» ⟨[.ref D], [(Str.ofString "key", .ref f)]⟩) _ _ _
    rw [ksk_t1]
    unfold ksk_tree
    refine wpAny_bind (listItems_at hD1 rfl ?_)
    refine wpAny_bind (listUpdate_at hD1 rfl ?_ (by rw [List.size_toArray]; omega) (Nat.zero_le _))
    have sb := Heap.SameBut.update h1' D (Obj.mapSeq fun _ => (#[] : Array Value))
    obtain ⟨e1, hD2⟩ : ∃ e1, (h1'.update D (Obj.mapSeq fun _ => (#[] : Array Value))).get? D = some (seqObj "list" #[] e1) := ⟨_, get?_update_seq hD1 fun _ => #[]⟩
    have I2 := I1.record (h' := h1'.update D (Obj.mapSeq fun _ => (#[] : Array Value))) yD nD0 sb
    have s2 : (h1'.update D (Obj.mapSeq fun _ => (#[] : Array Value))).objs.size = h1'.objs.size := sb.1
    generalize h1'.update D (Obj.mapSeq fun _ => (#[] : Array Value)) = h2' at hD2 I2 s2 ⊢
    refine wpAny_bind (seqEpoch_at hD2 rfl ?_)
    refine wpAny_bind (wpAny_newTuple ?_ hsm)
    refine wpAny_bind (wpAny_newList ?_ (Nat.zero_le _))
    refine wpAny_holding ?_
    have s3 : (h2'.push { cls := .type "tuple", data := .seq vs.toArray }).objs.size = h2'.objs.size + 1 := size_push' _ _
    have I3 : Inv X pins σ H { s with heap := (h2'.push { cls := .type "tuple", data := .seq vs.toArray }).push { cls := .type "list", data := .seq ([] : List Value).toArray } } :=
      I2.kept (t' := s.toks) fun b o e => Heap.get?_push_of_some _ (Heap.get?_push_of_some _ e)
    have hk3 : ((h2'.push { cls := .type "tuple", data := .seq vs.toArray }).push { cls := .type "list", data := .seq ([] : List Value).toArray }).get? (h2'.objs.size + 1) = some (seqObj "list" ([] : List Value).toArray 0) := by
      rw [← s3]; exact Heap.get?_push_size _ rfl
    have hD3 : ((h2'.push { cls := .type "tuple", data := .seq vs.toArray }).push { cls := .type "list", data := .seq ([] : List Value).toArray }).get? D = some (seqObj "list" #[] e1) := Heap.get?_push_of_some _ (Heap.get?_push_of_some _ hD2)
    have yk : Young X pins (h2'.objs.size + 1) := I2.young (Nat.le_succ _)
    have nk0 : H (h2'.objs.size + 1) = none := I2.hok.fresh (Nat.le_succ _)
    show wpAny _ _ (ksk_rest D (.ref f) false vs.toArray e1 (.ref (h2'.push { cls := .type "tuple", data := .seq vs.toArray }).objs.size)) _ _ _
    rw [s3]
    have kD : h2'.objs.size + 1 ≠ D := by
      have := Heap.lt_size hD2
      omega
    generalize h2'.objs.size + 1 = kS at hk3 yk nk0 kD ⊢
    generalize (h2'.push { cls := .type "tuple", data := .seq vs.toArray }).push { cls := .type "list", data := .seq ([] : List Value).toArray } = h3' at I3 hk3 hD3 ⊢
    unfold ksk_rest
    refine wpAny_bind (wpAny_rule ?_)
    rw [List.forIn_toArray]
    refine wpAny_bind (wpAny_mono (ksk_fold (fun i s' => ∃ (ks : List Value) (e : Nat) (H' : Hp), ks.length = i ∧ Inv X (pins ++ SortPins kS D ks e e1) σ H' s' ∧ Good H' ∧ (∀ b o, H b = some o → H' b = some o) ∧
        ∀ (j : Nat) (k : Value) (z : Int × Int), ks[j]? = some k → kz[j]? = some z → ∃ p, k = .ref p ∧ H' p = some (.tup [.int z.1, .int z.2])) vs 0 _ ?st ?turn ?done) (fun _ s' hq => hq) fun _ _ x => x)
    case st => exact ⟨[], 0, H, rfl, I3.sorting yk yD hk3 hD3 nk0 nD0, hG, fun _ _ e => e, fun j k z e => by simp at e⟩
    case turn =>
      rintro j v s' hv ⟨ks, e, H', hlen, I', g', sm, kk⟩
      have hj : j < vs.length := (List.getElem?_eq_some_iff.mp hv).1
      obtain ⟨x, hx⟩ : ∃ x, xs[j]? = some x := ⟨xs[j]'(by omega), List.getElem?_eq_getElem (by omega)⟩
      obtain ⟨z, hzz⟩ : ∃ z, kz[j]? = some z := ⟨kz[j]'(by omega), List.getElem?_eq_getElem (by omega)⟩
      obtain ⟨u, hu, ru⟩ := rv.get hx
      rw [hv] at hu
      cases hu
      refine wpAny_bind (wpAny_attempt (wpAny_mono (turn _ j x v z s' H' hx hzz ru I' g') (fun k s'' hk => ?_) fun _ _ hF => hF.elim))
      obtain ⟨p, H'', rfl, I'', g'', sm', hp⟩ := hk
      have pk := I''.pin (kS, seqObj "list" ks.toArray e) (List.mem_append_right _ (List.mem_append_right _ List.mem_cons_self))
      have pD := I''.pin (D, seqObj "list" #[] e1) (List.mem_append_right _ (List.mem_append_right _ (List.mem_cons_of_mem _ List.mem_cons_self)))
      dsimp only
      refine wpAny_bind (listUpdate_at pk.1 rfl ?_ (by rw [List.size_toArray]; omega) (by rw [Array.size_push, List.size_toArray]; omega))
      have sb' := Heap.SameBut.update s''.heap kS (Obj.mapSeq (·.push (Value.ref p)))
      have ea : ks.toArray.push (Value.ref p) = (ks ++ [Value.ref p]).toArray := by simp
      obtain ⟨c2, hc2⟩ : ∃ c2, (s''.heap.update kS (Obj.mapSeq (·.push (Value.ref p)))).get? kS = some (seqObj "list" (ks ++ [Value.ref p]).toArray c2) := ⟨_, by rw [← ea]; exact get?_update_seq pk.1 (·.push (Value.ref p))⟩
      have I4 := I''.unpinned.record yk pk.2.1 sb'
      refine wpAny_pure ⟨rfl, ks ++ [Value.ref p], c2, H'', by rw [List.length_append, hlen]; simp, I4.sorting yk yD hc2 ((sb'.2 D kD.symm).trans pD.1) pk.2.1 pD.2.1, g'', fun b o e => sm' b o (sm b o e), fun i k' z' e' ez => ?_⟩
      by_cases hi : i < ks.length
      · rw [List.getElem?_append_left hi] at e'
        obtain ⟨p', a1, a2⟩ := kk i k' z' e' ez
        exact ⟨p', a1, sm' _ _ a2⟩
      · have hi2 : i < (ks ++ [Value.ref p]).length := (List.getElem?_eq_some_iff.mp e').1
        rw [List.length_append, List.length_singleton] at hi2
        have hi3 : i = j := by omega
        subst hi3
        rw [hzz] at ez
        cases ez
        rw [List.getElem?_append_right (by omega)] at e'
        have e'' : some (Value.ref p) = some k' := by simpa [hlen] using e'
        cases e''
        exact ⟨p, rfl, hp⟩
    case done =>
      rintro s' ⟨ks, e, H', hlen, I', g', sm, kk⟩
      rw [Nat.zero_add] at hlen
      have pk := I'.pin (kS, seqObj "list" ks.toArray e) (List.mem_append_right _ (List.mem_append_right _ List.mem_cons_self))
      have pD := I'.pin (D, seqObj "list" #[] e1) (List.mem_append_right _ (List.mem_append_right _ (List.mem_cons_of_mem _ List.mem_cons_self)))
      have I0 : Inv X pins σ H' s' := I'.unpinned
      have KA : KeysAt H' ks kz := ⟨by omega, kk⟩
      refine wpAny_bind (listItems_at pk.1 rfl ?_)
      unfold ksk_end
      dsimp only
      simp only [Bool.false_eq_true, if_false]
      -- what comes behind the runs
      have tail : ∀ (st : SortSt) (p : Array Nat), arrOf st = p.map (kas_item (ks.toArray.zip vs.toArray)) → failedOf st = none → Srt.Ord xs.length p → Srt.Up (lexKey B kz) p xs.length →
          wpAny (model X.prog X.w) X.A.in1.in1 (ksk_tail D false e1 (.ref kS) st) (fun fin s'' => ∃ v, fin = .done (.ret v) ∧ wpAny (model X.prog X.w) X.A.in1 (ret (.ref D)) (fun fin s3 => ∃ v, fin = .done (.ret v) ∧ Q v s3) E s'') E s' := by
        intro st p ha hf po pu
        have out := kat_snds (ks := ks) (vs := vs) (by omega) ha
        unfold ksk_tail
        dsimp only
        rw [out, hf]
        have plen : (p.toList.map fun i => vs.getD i Value.none).length = vs.length := by rw [List.length_map, Array.length_toList, po.sz, lv]
        refine wpAny_bind (listUpdate_at pk.1 rfl ?_ (by rw [List.size_toArray]; omega) (Nat.zero_le _))
        have sb1 := Heap.SameBut.update s'.heap kS (Obj.mapSeq fun _ => (#[] : Array Value))
        have J1 := I0.record yk pk.2.1 sb1
        have hD4 : (s'.heap.update kS (Obj.mapSeq fun _ => (#[] : Array Value))).get? D = some (seqObj "list" #[] e1) := (sb1.2 D kD.symm).trans pD.1
        generalize s'.heap.update kS (Obj.mapSeq fun _ => (#[] : Array Value)) = h5 at J1 hD4 ⊢
        refine wpAny_bind (wpAny_letGo ?_)
        refine wpAny_bind (seqEpoch_at hD4 rfl ?_)
        simp only [Bool.false_eq_true, if_false, bne_self_eq_false]
        refine wpAny_bind (listUpdate_at hD4 rfl ?_ (Nat.zero_le _) (by rw [List.size_toArray, plen]; omega))
        have sb2 := Heap.SameBut.update h5 D (Obj.mapSeq fun _ => (p.toList.map fun i => vs.getD i Value.none).toArray)
        have J2 := J1.record yD pD.2.1 sb2
        obtain ⟨c3, hD5⟩ : ∃ c3, (h5.update D (Obj.mapSeq fun _ => (p.toList.map fun i => vs.getD i Value.none).toArray)).get? D = some (seqObj "list" (p.toList.map fun i => vs.getD i Value.none).toArray c3) := ⟨_, get?_update_seq hD4 _⟩
        generalize h5.update D (Obj.mapSeq fun _ => (p.toList.map fun i => vs.getD i Value.none).toArray) = h6 at J2 hD5 ⊢
        have rel : Vals (p.toList.map fun i => xs.getD i .non) (p.toList.map fun i => vs.getD i Value.none) := by
          have : ∀ (ls : List Nat), (∀ i ∈ ls, i < xs.length) → Vals (ls.map fun i => xs.getD i .non) (ls.map fun i => vs.getD i Value.none) := by
            intro ls
            induction ls with
            | nil => intro _; exact .nil
            | cons a r ih =>
              intro h
              refine .cons ?_ (ih fun i hi => h i (List.mem_cons_of_mem _ hi))
              have ha := h a List.mem_cons_self
              have := val_at rv (j := a) (by omega)
              show RelV (xs.getD a .non) (vs.getD a Value.none)
              rw [getD_at (xs := vs) (by omega : a < vs.length)]
              exact this
          refine this _ fun i hi => ?_
          have m : i ∈ p := by simpa using hi
          have m2 : i ∈ (List.toArray (List.range xs.length)) := (Array.Perm.mem_iff po.pm).mp m
          simpa using m2
        have J3 := J2.track (p := D) (o := .lst (p.toList.map fun i => xs.getD i .non)) pD.2.1 (Heap.get?_none_of_le (by rw [← hDD]; have := I.sz; omega)) yD.lo yD.ce yD.pi
          ⟨by rw [List.length_map, Array.length_toList, po.sz]; omega, _, c3, rel, hD5⟩
        refine wpAny_pure ⟨_, rfl, wpAny_pure ⟨_, rfl, q D p H' _ g' sm pD.2.1 po pu J3⟩⟩
      by_cases h2 : vs.toArray.size < 2
      · rw [if_pos h2, if_pos h2]
        rw [List.size_toArray] at h2
        refine wpAny_bind (wpAny_pure ?_)
        rw [StateT.run_pure]
        refine wpAny_bind (wpAny_pure ?_)
        dsimp only
        refine tail _ (List.toArray (List.range xs.length)) ?_ rfl ⟨by simp, Array.Perm.refl _⟩ fun i i1 i2 => by omega
        show ks.toArray.zip vs.toArray = _
        have e := kas_range (ks.toArray.zip vs.toArray)
        rw [show (ks.toArray.zip vs.toArray).size = xs.length by simp; omega] at e
        exact e.symm
      · rw [if_neg h2, if_neg h2]
        rw [List.size_toArray] at h2
        -- the keys' kind
        have KT : ∀ (ks' : List Value) (kz' : List (Int × Int)), ks'.length = kz'.length → (∀ (j : Nat) (k : Value) (z : Int × Int), ks'[j]? = some k → kz'[j]? = some z → ∃ p, k = .ref p ∧ H' p = some (.tup [.int z.1, .int z.2])) →
            ∃ fs : List Value, fs.length = ks'.length ∧ KatTups s'.heap ks' fs ∧ ∀ v ∈ fs, ∃ i t, v = Value.int i t := by
          intro ks'
          induction ks' with
          | nil => intro _ _ _; exact ⟨[], rfl, KatTups.nil, fun v hv => nomatch hv⟩
          | cons k r ih =>
            intro kz' hl' hk'
            cases kz' with
            | nil => simp at hl'
            | cons z rz =>
              obtain ⟨p, rfl, hp⟩ := hk' 0 k z rfl rfl
              obtain ⟨o, n, t, u, e1', e2', e3'⟩ := key_tup I0 hp
              obtain ⟨fs, f1, f2, f3⟩ := ih rz (by simpa using hl') fun j k z a b => hk' (j + 1) k z (by simpa using a) (by simpa using b)
              refine ⟨.int z.1 t :: fs, by simp [f1], KatTups.cons e1' e2' e3' rfl f2, fun v hv => ?_⟩
              rcases List.mem_cons.mp hv with rfl | hv
              · exact ⟨_, _, rfl⟩
              · exact f3 v hv
        obtain ⟨fs, f1, f2, f3⟩ := KT ks kz KA.len KA.at_
        refine wpAny_bind (kat_kind f2 (by omega) (T := .type "int") (fun v hv => ?_) (by decide) ?_)
        · obtain ⟨i, t, rfl⟩ := f3 v hv
          exact Looks.of_pure rfl
        have hkind : (Value.type "int" != Value.type "tuple") = true := by decide
        rw [hkind]
        have run := wp_of_run (key := lexKey B kz) (n := vs.length) (cmp := kas_ask X.prog X.w X.A.in1.in1 (tuples' true) ks) (s := s') (Q := fun r => Srt.Ord vs.length r ∧ Srt.Up (lexKey B kz) r vs.length) (fun i j C hi hj hC => ?_) _ (Srt.run_sort (n := vs.length) (by omega))
        · refine wpAny_bind (wpAny_mono (kat_run (Q := fun st' s'' => ∃ p, arrOf st' = p.map (kas_item (ks.toArray.zip vs.toArray)) ∧ failedOf st' = none ∧ (Srt.Ord vs.length p ∧ Srt.Up (lexKey B kz) p vs.length) ∧ s'' = s') (by omega) (by omega) (by omega)
            (fun p st' s'' a1 a2 a3 a4 => ⟨p, a2, a3, a4.1, a4.2⟩) run) ?_ fun _ _ x => x)
          rintro ⟨⟨⟩, st'⟩ s'' ⟨p, a2, a3, ⟨a4, a5⟩, rfl⟩
          dsimp only
          rw [← lv] at a4 a5
          exact tail st' p a2 a3 a4 a5
        · obtain ⟨ki, hki⟩ : ∃ k, ks[i]? = some k := ⟨ks[i]'(by omega), List.getElem?_eq_getElem (by omega)⟩
          obtain ⟨kj, hkj⟩ : ∃ k, ks[j]? = some k := ⟨ks[j]'(by omega), List.getElem?_eq_getElem (by omega)⟩
          obtain ⟨zi, hzi⟩ : ∃ z, kz[i]? = some z := ⟨kz[i]'(by omega), List.getElem?_eq_getElem (by omega)⟩
          obtain ⟨zj, hzj⟩ : ∃ z, kz[j]? = some z := ⟨kz[j]'(by omega), List.getElem?_eq_getElem (by omega)⟩
          obtain ⟨pi, rfl, hpi⟩ := kk i ki zi hki hzi
          obtain ⟨pj, rfl, hpj⟩ := kk j kj zj hkj hzj
          unfold kas_ask
          rw [List.getD_eq_getElem?_getD, List.getD_eq_getElem?_getD, hki, hkj]
          refine key_less I0 hpi hpj ?_
          have ei : kz.getD i (0, 0) = zi := by rw [List.getD_eq_getElem?_getD, hzi]; rfl
          have ej : kz.getD j (0, 0) = zj := by rw [List.getD_eq_getElem?_getD, hzj]; rfl
          unfold lexKey at hC
          rw [ei, ej] at hC
          rw [decide_eq_decide.mpr (lex_lt (hB zi (List.mem_of_getElem? hzi)) (hB zj (List.mem_of_getElem? hzj)))] at hC
          exact hC
end
end L2
set_option Elab.async false
set_option linter.all false
set_option maxRecDepth 100000
namespace L2
open PySem PySem.Spec PyProof.Rows PySem.W
def CdIs (c : Addr) (qual : Str) : Heap → Prop := fun h => ∃ (o : Obj) (vs : Array Value) (t : Tok), h.get? c = some o ∧ o.data = .fields vs ∧ vs[1]? = some (.str qual t)
def FnIs (f c : Addr) (qual : Str) (params : Arguments) (body : Expr) (scope : Scope) : Heap → Prop := fun h => ∃ (pm ctv : Value), h.get? f = some (kla_obj "<lambda>" qual params body scope [] pm c ctv)
theorem CdIs.ok {P : Program} {w : World} {H : Hp} {h : Heap} {c : Addr} {qual : Str} (x : CdIs c qual h) : ObjOk P w H h c (.ext (CdIs c qual)) :=
  ⟨x, let ⟨o, _, _, e, _⟩ := x; ⟨o, e⟩, fun _ _ ⟨o, vs, t, e, d⟩ k => ⟨o, vs, t, k o e, d⟩⟩
theorem FnIs.ok {P : Program} {w : World} {H : Hp} {h : Heap} {f c : Addr} {qual : Str} {params : Arguments} {body : Expr} {scope : Scope} (x : FnIs f c qual params body scope h) : ObjOk P w H h f (.ext (FnIs f c qual params body scope)) :=
  ⟨x, let ⟨_, _, e⟩ := x; ⟨_, e⟩, fun _ _ ⟨pm, ct, e⟩ k => ⟨pm, ct, k _ e⟩⟩
def BMain (mg : Str → Option Value) (base : Heap) : Prop := ∃ bm ob, mg "__builtins__" = some (.ref bm) ∧ bm ≠ builtinsNs ∧ base.get? bm = some ob ∧ ob.cls = .type "module" ∧ ob.dict = some builtinsNs ∧ ob.data = .plain
section
variable {X : Cx} {pins : List (Addr × Obj)} {σ : St} {H : Hp} {s : Shared}
theorem Inv.grown {h' : Heap} {t' : Nat} {P : Addr} {ps more : Array Value} (I : Inv X pins σ H s) (hP : H P = some (.tbl ps)) (hx : Heap.ExtBut P s.heap h') (hn : h'.get? P = some (tabObj (ps ++ more))) : Inv X pins σ (upd H P (.tbl (ps ++ more))) { s with heap := h', toks := t' } := by
  have nP : ∀ b, H b = none → b ≠ P := fun b n z => by rw [z, hP] at n; cases n
  have lP : X.env.locals ≠ P := nP _ I.free
  refine I.step (g' := s.gens) (d' := s.drawn) (ch := []) (fun _ z => nomatch z) (fun b o _ _ _ e n => hx b o (nP b n) e) (fun b o _ _ _ e n => ⟨o.slots, hx b o (nP b n) e⟩) (fun b o _ _ n => by rw [upd_ne (nP b n)]; exact n) (fun b o _ e => ?_)
    (fun b xs e => ?_) (fun b o u e => ?_) (fun b qs e => ?_) (fun m hm => ?_) (fun b u e => ?_) I.bare
  · by_cases hb : b = P
    · subst hb; exact ⟨_, hn⟩
    · exact ⟨o, hx b o hb e⟩
  · rw [upd_ne (fun z => by rw [z, hP] at e; cases e)]; exact e
  · rw [upd_ne (fun z => by rw [z, hP] at e; cases e)]; exact e
  · by_cases hb : b = P
    · subst hb
      rw [hP] at e
      cases e
      exact ⟨more, upd_same⟩
    · exact ⟨#[], by rw [upd_ne hb, e]; simp⟩
  · obtain ⟨o, es, ep, ho, r⟩ := hm
    exact ⟨o, es, ep, hx _ o lP ho, r⟩
  · by_cases hb : b = P
    · subst hb
      rw [upd_same] at e
      cases e
      exact hn
    · rw [upd_ne hb] at e
      refine (I.hok b u e).stay (fun c v hc q => hx c v ?_ q) (fun c q => ?_) fun c xs q => ?_
      · rcases hc with rfl | hc
        · exact hb
        · intro z; rw [z, hP] at hc; cases hc
      · rw [upd_ne (fun z => by rw [z, hP] at q; cases q)]; exact q
      · rw [upd_ne (fun z => by rw [z, hP] at q; cases q)]; exact q
def tLam (P : Addr) (qual : Str) (params : Arguments) (body : Expr) (scope : Scope) (pos : Pos) : TE := fun _ H Q => ∃ ps : Array Value, H P = some (.tbl ps) ∧ TriplesOk ps.toList ∧ codeAmong pos ps.toList = none ∧
  ∀ f c more, H f = none → H c = none → f ≠ c → Q (.ref f) (upd (upd (upd H P (.tbl (ps ++ more))) c (.ext (CdIs c qual))) f (.ext (FnIs f c qual params body scope)))
theorem pe_lam {params : Arguments} {body : Expr} {scope : Scope} {pos : Pos} {c P : Addr} (hcode : X.env.code = .ref c) (C : CodeHd X.base c P) (hB : BMain X.mg X.base) (hcl : closureFor scope X.env = pure []) (hdef : defaultsOf params X.env = ([], [])) :
    PE X (.Lambda params body scope pos) (tLam P (X.env.qual ++ "<lambda>") params body scope pos) := by
  intro pins s σ H Q I h
  obtain ⟨ps, hP, ht, hnf, q⟩ := h
  have hPo : s.heap.get? P = some (tabObj ps) := I.hok P _ hP
  obtain ⟨bm, ob, b1, b2, b3, b4, b5, b6⟩ := hB
  have hg : s.heap.Ns mainGlobals X.mg := I.mod.glob.keeps I.bk
  have nb : ∀ b o, X.base.get? b = some o → b ≠ P := fun b o e z => by
    have := (I.bs b o e).2
    rw [z, hP] at this
    cases this
  have hgP : mainGlobals ≠ P := by
    obtain ⟨o, es, ep, e, _⟩ := I.mod.glob
    exact nb _ o e
  have hbG : bm ≠ mainGlobals := fun z => by
    obtain ⟨o, es, ep, e, hd, _⟩ := I.mod.glob
    rw [z, e] at b3
    cases b3
    rw [hd] at b6
    cases b6
  refine kla_eval hdef (kla_makeFunction (mg := X.mg) hcl I.ok.glob hg hcode (C.keeps I.bk) hPo ht hnf hgP ⟨bm, ob, b1, b2, hbG, nb _ _ b3, I.bk _ _ b3, b4, b5, b6⟩ fun c' ctv h' tk hx hge hlt hrec htb => ?_)
  have I1 : Inv X pins σ (upd H P (.tbl (ps ++ #[rawInt pos.line, rawInt pos.col, .ref c']))) { s with heap := h', toks := tk } := I.grown hP hx htb
  have n1 : H c' = none := I.hok.fresh hge
  have hPc : c' ≠ P := fun z => by rw [z, hP] at n1; cases n1
  have y1 := I.young hge
  have I2 := I1.kept (h' := h'.push (kla_obj "<lambda>" (X.env.qual ++ "<lambda>") params body scope [] ((X.mg "__name__").getD .none) c' ctv)) (t' := tk) fun b u e => Heap.get?_push_of_some _ e
  obtain ⟨c2, oc, vs, t, e2, hoc, hd, hv⟩ := hrec
  cases e2
  have I3 := I2.track (p := c') (o := .ext (CdIs c' (X.env.qual ++ "<lambda>"))) (by rw [upd_ne hPc]; exact n1) (Heap.get?_none_of_le (Nat.le_trans I.sz hge)) y1.lo y1.ce y1.pi (CdIs.ok ⟨oc, vs, t, Heap.get?_push_of_some _ hoc, hd, hv⟩)
  have hge2 : s.heap.objs.size ≤ h'.objs.size := by omega
  have n2 : H h'.objs.size = none := I.hok.fresh hge2
  have hPf : h'.objs.size ≠ P := fun z => by rw [z, hP] at n2; cases n2
  have hcf : h'.objs.size ≠ c' := by omega
  have y2 := I.young hge2
  have I4 := I3.track (p := h'.objs.size) (o := .ext (FnIs h'.objs.size c' (X.env.qual ++ "<lambda>") params body scope)) (by rw [upd_ne hcf, upd_ne hPf]; exact n2) (Heap.get?_none_of_le (Nat.le_trans I.sz hge2)) y2.lo y2.ce y2.pi
    (FnIs.ok ⟨_, ctv, Heap.get?_push_size _ rfl⟩)
  exact ⟨.ref h'.objs.size, _, I4, rfl, q _ _ _ n2 n1 hcf⟩
theorem lam_call {A : Around} {f c : Addr} {qual : Str} {params : Arguments} {body : Expr} {scope : Scope} {N ps : List Str} {us : List Value} {vs : List V} {Q : VK} (I : Inv X pins σ H s) (hA : A.frames = some X.stack) (hr : Room 1 A) (S : FnScope N ps scope)
    (hf : H f = some (.ext (FnIs f c qual params body scope))) (hc : H c = some (.ext (CdIs c qual))) (hb : ∀ (pm ctv : Value), bindArgs (kla_fn "<lambda>" qual params body scope [] pm (.ref c) ctv) ⟨us, []⟩ = pure (ps.zip us)) (r : Vals vs us) (hl : vs.length = ps.length)
    (h : ∃ t, PE (cxOf CX0 X.prog X.w X.K X.mg X.base N qual scope f (.ref c) A X.stack s H E0).nox body t ∧ t (start N vs) H Q) : wpAny (model X.prog X.w) A (call (.ref f) us) (EP X pins σ Q) (fun _ _ => False) s := by
  obtain ⟨⟨pm, ctv, ho⟩, _⟩ := I.hok f _ hf
  obtain ⟨⟨oc, cs, tq, ho2, hd2, hq2⟩, _⟩ := I.hok c _ hc
  obtain ⟨t, ht, hq⟩ := h
  have e0 : Env0 X.prog X.w X.K X.mg X.base A X.stack s H := ⟨hA, I.ok.mod, I.bs, Nat.le_trans I.ok.bsz I.sz, I.stack, I.stkFree, I.hok, I.bare⟩
  have hkind : ∀ y ∈ ps.zip us, scope.names.lookup y.1 = some .local ∨ (scope.names.lookup y.1 = some .cell ∧ ((cellsFrom (s.heap.objs.size + 1) scope.names []).lookup y.1).isSome = true) := fun ⟨n, v⟩ hy => by
    rcases S.par n (List.of_mem_zip hy).1 with z | z
    · exact .inl z
    · exact .inr ⟨z, cellsFrom_some _ _ _ (.inl z)⟩
  refine wpAny_call (codeAny_mono (R := fun r s' => ∃ u, r = .ok (.ret u) ∧ CE X.stack X.prog X.w H s Q u s') ?_ fun r s' hr' => ?_)
  · refine kla_callFunE hr.depth ho rfl S.co S.gen rfl ⟨c, oc, cs, tq, rfl, ho2, hd2, hq2⟩ ?_
    refine wpAny_of_eq (hb pm ctv) ?_
    refine wpAny_newFunctionEnv_cells S.kind hkind fun env he s1 x => ?_
    subst he
    refine ⟨I.nolimit.keeps x.toInCall.keep, kla_codeExpr ?_⟩
    have I1 : Inv (cxOf CX0 X.prog X.w X.K X.mg X.base N qual scope f (.ref c) A X.stack s H E0) [] (start N vs) H s1 := inv_start S hr.hd e0 hl r x
    refine wpAny_mono (ht [] s1 (start N vs) H Q (I1.wish _) hq) (fun u s' hs => ?_) fun _ _ z => False.elim z
    obtain ⟨v, H', J, rv, qv⟩ := hs
    exact ⟨u, rfl, v, H', J.os, J.bare, J.base, J.hok, rv, qv⟩
  · obtain ⟨u, rfl, ce⟩ := hr'
    exact I.after ce
end
end L2
set_option Elab.async false
set_option linter.all false
set_option maxRecDepth 100000
namespace L2
open PySem PySem.Spec PyProof.Rows PySem.W Builtin.Getset_descriptor
def ExcIs (ea C : Addr) : Heap → Prop := fun h => ∃ o, h.get? ea = some o ∧ o.cls = .ref C
theorem ExcIs.ty {M : Model} {h : Heap} {ea C : Addr} (x : ExcIs ea C h) : Looks M h (typeOf (.ref ea)) (.ref C) := by
  obtain ⟨o, e, c⟩ := x
  rw [← c]
  exact (Looks.ld e).andThen .now
section
variable {prog : Program} {w : World} {A : Around} {E : Value → Shared → Prop} {K : Frag} {x C : Addr}
theorem exc_class_get {s : Shared} {tp : Value} {R : Result → Shared → Prop} (X : K.In s.heap) (J : ExcIs x C s.heap) (hm : mroIn K C (.type "object") = some true) (q : R (.ok (.ret (.ref C))) s) :
    codeAny (model prog w) A (.call (.builtin "getset_descriptor.__get__") ⟨[.builtin "object.__class__", .ref x, tp], []⟩) R s := by
  obtain ⟨h0, g0, d0, t0, o0⟩ := s
  have LT := J.ty (M := model prog w)
  have LM := looks_mroIn (M := model prog w) X hm
  refine codeAny_call_builtin KF.slot_gs.plain KF.entry_gs ?_
  refine KF.slot_gs.check _ _ _ _ _ _ _ _ KF.type_class (KF.args_gs _ _ _) ?_
  unfold Builtin.«getset_descriptor.__get__»
  unfold descrGet
  rw [dga_obj]
  refine wpAny_bind ?_
  refine wpAny_pure ?_
  unfold descrGetter
  unfold descrCheckInstance
  unfold descrNameAndClass
  unfold isInstance
  simp only [KF.owner_class]
  repeat lk
  refine ⟨Code.quiet_builtin _ (by decide +kernel), ?_⟩
  refine codeAny_builtin KF.entry_class ?_
  unfold Builtin.«object.__class__»
  unfold shownTypeOf
  repeat lk
  exact q
structure ExcCls (K : Frag) (C : Addr) : Prop where
  ga : findIn K (.ref C) "__getattribute__" = some (some (.builtin "BaseException.__getattribute__"))
  gn : findIn K (.ref C) "__getattr__" = some none
  ha : findIn K (.ref C) "__class__" = some (some (.builtin "object.__class__"))
  hn : specialIn K (.builtin "object.__class__") "__get__" = some (some (.builtin "getset_descriptor.__get__"))
  tk : takesIn K (.builtin "object.__class__") = some true
  mo : mroIn K C (.type "object") = some true
  mb : mroIn K C (.type "BaseException") = some true
  ty : typeIn K (.ref C) = some (.type "type")
  cl : (clsIn K C).isSome = true
theorem exc_find {M : Model} {h : Heap} (X : K.In h) (J : ExcIs x C h) (c : ExcCls K C) : Looks M h (Builtin.ObjectAttr.find (.ref x) (.ref C) "__class__") (.bind (.builtin "getset_descriptor.__get__") (.builtin "object.__class__")) := by
  have L1 := looks_findIn (M := M) X c.ha
  have L2 : Looks M h (Builtin.ObjectAttr.getOf (some (.builtin "object.__class__"))) (some (.builtin "getset_descriptor.__get__")) := looks_specialIn X c.hn
  have L3 := looks_takesIn (M := M) X c.tk
  exact L1.andThen (L2.andThen ((show Looks M h (Builtin.ObjectAttr.dataDescriptor? (some (.builtin "object.__class__")) (some (.builtin "getset_descriptor.__get__"))) (some (.builtin "getset_descriptor.__get__", .builtin "object.__class__")) from L3.andThen .now).andThen (Looks.tag .now)))
theorem exc_entry {s : Shared} {tk : Tok} {R : Result → Shared → Prop} (X : K.In s.heap) (J : ExcIs x C s.heap) (c : ExcCls K C) (q : R (.ok (.ret (.ref C))) s) :
    codeAny (model prog w) A (.call (.builtin "BaseException.__getattribute__") ⟨[.ref x, .str "__class__" tk], []⟩) R s := by
  obtain ⟨h0, g0, d0, t0, o0⟩ := s
  have LT := J.ty (M := model prog w)
  have LF := exc_find (M := model prog w) X J c
  have LB := looks_mroIn (M := model prog w) X c.mb
  refine codeAny_call_builtin PySem.F.attr_ValueError.ga.plain PySem.F.entry_bexc_ga ?_
  have hk : builtinKind "BaseException.__getattribute__" = some .slot := by decide +kernel
  have hsp : splitId "BaseException.__getattribute__" = some ("BaseException", "__getattribute__") := by decide +kernel
  have hao := PySem.F.args_bexc_ga (.ref x) (.str "__class__" tk)
  simp only [checkBuiltinCall, hk, hsp]
  refine wpAny_bind ?_
  unfold isInstance
  repeat (any_goals (first | assumption | with_reducible refine Looks.at (by assumption) ?_ | wp_step))
  refine exc_class_get X J c.mo ?_
  repeat (any_goals (first | assumption | wp_step))
theorem exc_attr {s : Shared} {Q : Option Value → Shared → Prop} (X : K.In s.heap) (J : ExcIs x C s.heap) (c : ExcCls K C) (q : Q (some (.ref C)) { s with toks := s.toks + 1 }) : wpAny (model prog w) A (getAttr? (.ref x) "__class__") Q E s := by
  obtain ⟨h0, g0, d0, t0, o0⟩ := s
  have LT := J.ty (M := model prog w)
  have L1 := looks_findIn (M := model prog w) X c.ga
  have L2 := looks_findIn (M := model prog w) X c.gn
  have f3 := PySem.F.attr_ValueError.ga.bind (.ref x)
  have hx2 : (Value.builtin "BaseException.__getattribute__" == Value.builtin "object.__getattribute__") = false := by decide +kernel
  have hx1 : (onTheHeap (Value.ref C) && Value.builtin "BaseException.__getattribute__" == Value.builtin "object.__getattribute__") = false := by rw [hx2]; rfl
  unfold getAttr? getAttrBy?
  repeat (any_goals (first | assumption | with_reducible refine Looks.at (by assumption) ?_ | wp_step))
  refine exc_entry X J c ?_
  repeat (any_goals (first | assumption | wp_step))
theorem kitx_exc (c : ExcCls K C) : KitX K (.ref x) (.ref C) (ExcIs x C) where
  ty := fun _ _ _ J => J.ty
  it := fun M h X _ => by
    obtain ⟨cd, hc⟩ := Option.isSome_iff_exists.mp c.cl
    unfold clsIn at hc
    split at hc
    · rename_i a1 a2 a3 a4 ho
      intro A' Q' E' s' k z
      unfold isType loadHead
      exact wpAny_bind (wpAny_loadPart (k _ _ (X _ _ ho)) (wpAny_pure z))
    · cases hc
  ne := fun h tp dd its n sl X htp => by
    obtain ⟨cd, hc⟩ := Option.isSome_iff_exists.mp c.cl
    refine Bool.eq_false_iff.mpr fun q => ?_
    obtain rfl : C = tp := Value.ref.inj (beq_iff_eq.mp q)
    unfold clsIn at hc
    split at hc
    · rename_i a1 a2 a3 a4 ho
      have z := (X _ _ ho).symm.trans htp
      cases z
    · cases hc
  ca := fun X J k => exc_attr X J c k
end
end L2
set_option Elab.async false
set_option linter.all false
set_option maxRecDepth 100000
namespace L2
open PySem PySem.Spec PyProof.Rows PySem.W
end L2
set_option Elab.async false
set_option linter.all false
set_option maxRecDepth 100000
namespace L2
open PySem PySem.Spec PyProof.Rows
end L2
set_option Elab.async false
set_option linter.all false
set_option maxRecDepth 100000
namespace L2
open PySem PySem.Spec PyProof.Rows
def Evl (t : TE) (σ : St) (H : Hp) (v : V) : Prop := ∀ Q : VK, Q v H → t σ H Q
def Tst (t : TT) (σ : St) (H : Hp) (p : Prop) [Decidable p] : Prop := ∀ Q : Bool → Hp → Prop, Q (decide p) H → t σ H Q
section
variable {σ : St} {H : Hp} {ta tb tc : TE} {x y v : V} {i j k : Int} {K : PySem.W.Frag} {D : Ends} {n m : Nat}
theorem evl_var {i : Nat} (h : σ[i]? = some (some v)) : Evl (tVar i) σ H v := fun Q q => ⟨v, h, q⟩
theorem evl_c : Evl (tC v) σ H v := fun Q q => q
theorem evl_I0 {g : Int → Int → V} (a : Evl ta σ H (.int i)) (b : Evl tb σ H (.int j)) : Evl (tOp (rI0 g) ta tb) σ H (g i j) := fun Q q => a _ (b _ ⟨i, j, rfl, rfl, q⟩)
theorem evl_I {C : Int → Int → Prop} {g : Int → Int → V} (a : Evl ta σ H (.int i)) (b : Evl tb σ H (.int j)) (c : C i j) : Evl (tOp (rI C g) ta tb) σ H (g i j) := fun Q q => a _ (b _ ⟨i, j, rfl, rfl, c, q⟩)
theorem evl_U {g : Int → V} (a : Evl ta σ H (.int i)) : Evl (tUn (rU g) ta) σ H (g i) := fun Q q => a _ ⟨i, rfl, q⟩
theorem evl_eqI (a : Evl ta σ H (.int i)) (b : Evl tb σ H (.int j)) : Evl (tOp rEq ta tb) σ H (.bl (decide (i = j))) := fun Q q => a _ (b _ ⟨rfl, by
  have e : decide (V.int i = V.int j) = decide (i = j) := by
    rw [decide_eq_decide]
    exact ⟨fun z => V.int.inj z, fun z => by rw [z]⟩
  rw [e]
  exact q⟩)
theorem evl_ixT {p : Addr} {xs : List V} (a : Evl ta σ H (.ref p)) (b : Evl tb σ H (.int i)) (h : SqT K H p xs) (e : atI xs i = some v) : Evl (tOp (rIxT K) ta tb) σ H v := fun Q q => a _ (b _ ⟨p, xs, i, v, rfl, rfl, h, e, q⟩)
theorem evl_ixL {p : Addr} {xs : List V} (a : Evl ta σ H (.ref p)) (b : Evl tb σ H (.int i)) (h : SqL K H p xs) (e : atI xs i = some v) : Evl (tOp (rIxL K) ta tb) σ H v := fun Q q => a _ (b _ ⟨p, xs, i, v, rfl, rfl, h, e, q⟩)
theorem evl_lenL {p : Addr} {ys : List V} (a : Evl ta σ H (.ref p)) (h : SqL K H p ys) : Evl (tCB (fun xs H Q => ∃ p ys, xs = [.ref p] ∧ (SqL K H p ys ∨ SqT K H p ys) ∧ Q (.int ys.length) H) (tCons ta tNil)) σ H (.int ys.length) := fun Q q => a _ ⟨p, ys, rfl, .inl h, q⟩
theorem evl_call2 {g : Int → Int → V} (a : Evl ta σ H (.int i)) (b : Evl tb σ H (.int j)) : Evl (tCB (fun xs H Q => ∃ i j, xs = [.int i, .int j] ∧ Q (g i j) H) (tCons ta (tCons tb tNil))) σ H (g i j) := fun Q q => a _ (b _ ⟨i, j, rfl, q⟩)
theorem tst_of {p : Prop} [Decidable p] (a : Evl ta σ H (.bl (decide p))) : Tst (tTest ta) σ H p := fun Q q => a _ ⟨_, rfl, q⟩
theorem tst_and {t u : TT} {p q : Prop} [Decidable p] [Decidable q] (a : Tst t σ H p) (b : Tst u σ H q) : Tst (tAnd t u) σ H (p ∧ q) := fun Q z => a _ (by
  by_cases h : p
  · rw [decide_eq_true h, if_pos rfl]
    refine b _ ?_
    have e : decide (p ∧ q) = decide q := by rw [decide_eq_decide]; exact ⟨fun z => z.2, fun z => ⟨h, z⟩⟩
    rw [← e]; exact z
  · rw [decide_eq_false h, if_neg Bool.false_ne_true]
    have e : decide (p ∧ q) = false := decide_eq_false fun z => h z.1
    rw [← e]; exact z)
theorem tst_or {t u : TT} {p q : Prop} [Decidable p] [Decidable q] (a : Tst t σ H p) (b : Tst u σ H q) : Tst (tOr t u) σ H (p ∨ q) := fun Q z => a _ (by
  by_cases h : p
  · rw [decide_eq_true h, if_pos rfl]
    have e : decide (p ∨ q) = true := decide_eq_true (.inl h)
    rw [← e]; exact z
  · rw [decide_eq_false h, if_neg Bool.false_ne_true]
    refine b _ ?_
    have e : decide (p ∨ q) = decide q := by rw [decide_eq_decide]; exact ⟨fun z => z.resolve_left h, .inr⟩
    rw [← e]; exact z)
theorem tst_if {t : TT} {a b : TS} {p : Prop} [Decidable p] (h : Tst t σ H p) (h1 : p → a D σ H) (h2 : ¬ p → b D σ H) : tIfS t a b D σ H := h _ (by
  by_cases c : p
  · rw [decide_eq_true c, if_pos rfl]; exact h1 c
  · rw [decide_eq_false c, if_neg Bool.false_ne_true]; exact h2 c)
theorem seq_if {t : TT} {a b u : TS} {p : Prop} [Decidable p] (h : Tst t σ H p) (h1 : p → a { D with nx := u D } σ H) (h2 : ¬ p → b { D with nx := u D } σ H) : tSeq (tIfS t a b) u D σ H := tst_if h h1 h2
theorem seq_asg {i : Nat} {u : TS} (h : Evl ta σ H v) (q : u D (σ.set i (some v)) H) : tSeq (tAsg ta (gName i)) u D σ H := h _ q
theorem run_ret (h : Evl ta σ H v) (q : D.rt v H) : tRet ta D σ H := h _ q
theorem run_unp4 {a b c d : Nat} {p : Addr} {v1 v2 v3 v4 : V} (h : Evl ta σ H (.ref p)) (t : SqT K H p [v1, v2, v3, v4]) (q : D.nx ((((σ.set a (some v1)).set b (some v2)).set c (some v3)).set d (some v4)) H) :
    tAsg ta (gTup K 4 (gCons (gName a) (gCons (gName b) (gCons (gName c) (gCons (gName d) gNil))))) D σ H := h _ ⟨p, _, rfl, t, rfl, _, _, rfl, _, _, rfl, _, _, rfl, _, _, rfl, rfl, q⟩
theorem seq_unp4 {a b c d : Nat} {p : Addr} {v1 v2 v3 v4 : V} {u : TS} (h : Evl ta σ H (.ref p)) (t : SqT K H p [v1, v2, v3, v4]) (q : u D ((((σ.set a (some v1)).set b (some v2)).set c (some v3)).set d (some v4)) H) :
    tSeq (tAsg ta (gTup K 4 (gCons (gName a) (gCons (gName b) (gCons (gName c) (gCons (gName d) gNil)))))) u D σ H := run_unp4 h t q
theorem run_tup4 {t1 t2 t3 t4 : TE} {v1 v2 v3 v4 : V} {Q : VK} (h1 : Evl t1 σ H v1) (h2 : Evl t2 σ H v2) (h3 : Evl t3 σ H v3) (h4 : Evl t4 σ H v4) (q : ∀ p, H p = none → Q (.ref p) (upd H p (.tup [v1, v2, v3, v4]))) :
    tTup (tCons t1 (tCons t2 (tCons t3 (tCons t4 tNil)))) σ H Q := h1 _ (h2 _ (h3 _ (h4 _ ⟨by show 4 ≤ sizeLine; decide, q⟩)))
theorem cons_tup4 {t1 t2 t3 t4 : TE} {tr : TA} {v1 v2 v3 v4 : V} {Q : List V → Hp → Prop} (h1 : Evl t1 σ H v1) (h2 : Evl t2 σ H v2) (h3 : Evl t3 σ H v3) (h4 : Evl t4 σ H v4) (q : ∀ p, H p = none → tr σ (upd H p (.tup [v1, v2, v3, v4])) fun xs H2 => Q (.ref p :: xs) H2) :
    tCons (tTup (tCons t1 (tCons t2 (tCons t3 (tCons t4 tNil))))) tr σ H Q := run_tup4 (Q := fun x H1 => tr σ H1 fun xs H2 => Q (x :: xs) H2) h1 h2 h3 h4 q
theorem run_retL {t : TA} (h : t σ H fun xs H1 => xs.length ≤ sizeLine ∧ ∀ p, H1 p = none → D.rt (.ref p) (upd H1 p (.lst xs))) : tRet (tLst t) D σ H := h
theorem run_next (h : D.nx σ H) : tNext D σ H := h
end
end L2
namespace Til
structure Bx where
  l : Int
  t : Int
  r : Int
  b : Int
deriving DecidableEq
def inB (b : Bx) (x y : Int) : Bool := decide (b.l ≤ x) && decide (x < b.r) && decide (b.t ≤ y) && decide (y < b.b)
theorem inB_iff {b : Bx} {x y : Int} : inB b x y = true ↔ b.l ≤ x ∧ x < b.r ∧ b.t ≤ y ∧ y < b.b := by
  simp [inB, and_assoc]
def cnt (bs : List Bx) (x y : Int) : Nat := bs.countP (inB · x y)
theorem cnt_nil (x y : Int) : cnt [] x y = 0 := rfl
theorem cnt_cons (b : Bx) (bs : List Bx) (x y : Int) : cnt (b :: bs) x y = cnt bs x y + (inB b x y).toNat := by
  unfold cnt
  rw [List.countP_cons]
  cases inB b x y <;> rfl
theorem cnt_append (as bs : List Bx) (x y : Int) : cnt (as ++ bs) x y = cnt as x y + cnt bs x y := by
  unfold cnt
  rw [List.countP_append]
structure Ok (n m : Int) (b : Bx) : Prop where
  h0 : 0 ≤ b.l
  h1 : b.l < b.r
  h2 : b.r ≤ n
  v0 : 0 ≤ b.t
  v1 : b.t < b.b
  v2 : b.b ≤ m
structure Tiles (bs : List Bx) (n m : Int) : Prop where
  wf : ∀ b ∈ bs, Ok n m b
  one : ∀ x y, 0 ≤ x → x < n → 0 ≤ y → y < m → cnt bs x y = 1
theorem tiles_start {n m : Int} (hn : 0 < n) (hm : 0 < m) : Tiles [⟨0, 0, n, m⟩] n m := by
  refine ⟨fun b hb => ?_, fun x y h1 h2 h3 h4 => ?_⟩
  · obtain rfl := List.mem_singleton.mp hb
    exact ⟨Int.le_refl 0, hn, Int.le_refl n, Int.le_refl 0, hm, Int.le_refl m⟩
  · have e : inB ⟨0, 0, n, m⟩ x y = true := inB_iff.mpr ⟨h1, h2, h3, h4⟩
    rw [cnt_cons, e]
    rfl
theorem tiles_part {bs nb : List Bx} {n m : Int} {i : Nat} {b : Bx} (T : Tiles bs n m) (hi : bs[i]? = some b) (wf : ∀ c ∈ nb, Ok n m c)
    (hc : ∀ x y, cnt nb x y = (inB b x y).toNat) : Tiles (bs.take i ++ bs.drop (i + 1) ++ nb) n m := by
  have e : bs = bs.take i ++ b :: bs.drop (i + 1) := by
    obtain ⟨h, e⟩ := List.getElem?_eq_some_iff.mp hi
    rw [← e, List.getElem_cons_drop, List.take_append_drop]
  refine ⟨fun c hc' => ?_, fun x y h1 h2 h3 h4 => ?_⟩
  · rcases List.mem_append.mp hc' with h | h
    · rcases List.mem_append.mp h with h | h
      · exact T.wf c (List.mem_of_mem_take h)
      · exact T.wf c (List.mem_of_mem_drop h)
    · exact wf c h
  · have q := T.one x y h1 h2 h3 h4
    rw [e, cnt_append, cnt_cons] at q
    rw [cnt_append, cnt_append, hc]
    omega
theorem toNat_dec (p : Prop) [Decidable p] : (decide p).toNat = if p then 1 else 0 := by
  by_cases h : p <;> simp [h]
theorem inB_nat (b : Bx) (x y : Int) : (inB b x y).toNat = if b.l ≤ x ∧ x < b.r ∧ b.t ≤ y ∧ y < b.b then 1 else 0 := by
  rw [← toNat_dec]
  congr 1
  by_cases h : inB b x y = true
  · rw [h]; exact (decide_eq_true (inB_iff.mp h)).symm
  · rw [decide_eq_false fun z => h (inB_iff.mpr z)]
    simpa using h
theorem ifc {p q : Prop} [Decidable p] [Decidable q] (h : p ↔ q) : (if p then 1 else 0 : Nat) = if q then 1 else 0 := by
  by_cases a : p
  · rw [if_pos a, if_pos (h.mp a)]
  · rw [if_neg a, if_neg fun z => a (h.mpr z)]
theorem part_x {l t r b x : Int} (h1 : l < x) (h2 : x < r) (u v : Int) : cnt [⟨l, t, x, b⟩, ⟨x, t, r, b⟩] u v = (inB ⟨l, t, r, b⟩ u v).toNat := by
  simp only [cnt_cons, cnt_nil, inB_nat]
  by_cases c : u < x
  · rw [if_neg (fun z => Int.not_le.mpr c z.1), Nat.zero_add]
    exact ifc ⟨fun ⟨a, _, d⟩ => ⟨a, Int.lt_trans c h2, d⟩, fun ⟨a, _, d⟩ => ⟨a, c, d⟩⟩
  · rw [if_neg (c := l ≤ u ∧ u < x ∧ _) (fun z => c z.2.1), Nat.zero_add, Nat.add_zero]
    exact ifc ⟨fun ⟨a, d⟩ => ⟨Int.le_trans (Int.le_of_lt h1) a, d⟩, fun ⟨_, d⟩ => ⟨Int.not_lt.mp c, d⟩⟩
theorem part_y {l t r b y : Int} (h1 : t < y) (h2 : y < b) (u v : Int) : cnt [⟨l, t, r, y⟩, ⟨l, y, r, b⟩] u v = (inB ⟨l, t, r, b⟩ u v).toNat := by
  simp only [cnt_cons, cnt_nil, inB_nat]
  by_cases c : v < y
  · rw [if_neg (fun z => Int.not_le.mpr c z.2.2.1), Nat.zero_add]
    exact ifc ⟨fun ⟨a, e, d, _⟩ => ⟨a, e, d, Int.lt_trans c h2⟩, fun ⟨a, e, d, _⟩ => ⟨a, e, d, c⟩⟩
  · rw [if_neg (c := l ≤ u ∧ u < r ∧ t ≤ v ∧ v < y) (fun z => c z.2.2.2), Nat.zero_add, Nat.add_zero]
    exact ifc ⟨fun ⟨a, e, d, f⟩ => ⟨a, e, Int.le_trans (Int.le_of_lt h1) d, f⟩, fun ⟨a, e, _, f⟩ => ⟨a, e, Int.not_lt.mp c, f⟩⟩
theorem ok_part_x {n m l t r b x : Int} (o : Ok n m ⟨l, t, r, b⟩) (h1 : l < x) (h2 : x < r) : ∀ c ∈ [(⟨l, t, x, b⟩ : Bx), ⟨x, t, r, b⟩], Ok n m c := by
  obtain ⟨a1, a2, a3, a4, a5, a6⟩ := o
  dsimp only at a1 a2 a3 a4 a5 a6
  intro c hc
  simp only [List.mem_cons, List.not_mem_nil, or_false] at hc
  rcases hc with rfl | rfl <;> constructor <;> dsimp only <;> omega
theorem ok_part_y {n m l t r b y : Int} (o : Ok n m ⟨l, t, r, b⟩) (h1 : t < y) (h2 : y < b) : ∀ c ∈ [(⟨l, t, r, y⟩ : Bx), ⟨l, y, r, b⟩], Ok n m c := by
  obtain ⟨a1, a2, a3, a4, a5, a6⟩ := o
  dsimp only at a1 a2 a3 a4 a5 a6
  intro c hc
  simp only [List.mem_cons, List.not_mem_nil, or_false] at hc
  rcases hc with rfl | rfl <;> constructor <;> dsimp only <;> omega
def wheelA (l t r b x y u v : Int) : List Bx := [⟨l, t, u, y⟩, ⟨u, t, r, v⟩, ⟨x, v, r, b⟩, ⟨l, y, x, b⟩, ⟨x, y, u, v⟩]
def wheelB (l t r b x y u v : Int) : List Bx := [⟨x, t, r, y⟩, ⟨u, y, r, b⟩, ⟨l, v, u, b⟩, ⟨l, t, x, v⟩, ⟨x, y, u, v⟩]
theorem two_x {l t r b x : Int} (h1 : l < x) (h2 : x < r) (u v : Int) : (inB ⟨l, t, x, b⟩ u v).toNat + (inB ⟨x, t, r, b⟩ u v).toNat = (inB ⟨l, t, r, b⟩ u v).toNat := by
  have := part_x (t := t) (b := b) h1 h2 u v
  simp only [cnt_cons, cnt_nil] at this
  omega
theorem two_y {l t r b y : Int} (h1 : t < y) (h2 : y < b) (u v : Int) : (inB ⟨l, t, r, y⟩ u v).toNat + (inB ⟨l, y, r, b⟩ u v).toNat = (inB ⟨l, t, r, b⟩ u v).toNat := by
  have := part_y (l := l) (r := r) h1 h2 u v
  simp only [cnt_cons, cnt_nil] at this
  omega
theorem part_wheelA {l t r b x y u v : Int} (h1 : l < x) (h2 : x < u) (h3 : u < r) (h4 : t < y) (h5 : y < v) (h6 : v < b) (p q : Int) :
    cnt (wheelA l t r b x y u v) p q = (inB ⟨l, t, r, b⟩ p q).toNat := by
  have e1 := two_y (l := l) (r := r) h4 (Int.lt_trans h5 h6) p q
  have e2 := two_x (t := t) (b := y) (Int.lt_trans h1 h2) h3 p q
  have e3 := two_x (t := y) (b := b) h1 (Int.lt_trans h2 h3) p q
  have e4 := two_y (l := x) (r := r) h5 h6 p q
  have e5 := two_x (t := y) (b := v) h2 h3 p q
  have e6 := two_y (l := u) (r := r) h4 h5 p q
  simp only [wheelA, cnt_cons, cnt_nil]
  clear h1 h2 h3 h4 h5 h6
  omega
theorem part_wheelB {l t r b x y u v : Int} (h1 : l < x) (h2 : x < u) (h3 : u < r) (h4 : t < y) (h5 : y < v) (h6 : v < b) (p q : Int) :
    cnt (wheelB l t r b x y u v) p q = (inB ⟨l, t, r, b⟩ p q).toNat := by
  have e1 := two_y (l := l) (r := r) h4 (Int.lt_trans h5 h6) p q
  have e2 := two_x (t := t) (b := y) h1 (Int.lt_trans h2 h3) p q
  have e3 := two_x (t := y) (b := b) (Int.lt_trans h1 h2) h3 p q
  have e4 := two_y (l := l) (r := u) h5 h6 p q
  have e5 := two_x (t := y) (b := v) h1 h2 p q
  have e6 := two_y (l := l) (r := x) h4 h5 p q
  simp only [wheelB, cnt_cons, cnt_nil]
  clear h1 h2 h3 h4 h5 h6
  omega
theorem ok_wheelA {n m l t r b x y u v : Int} (o : Ok n m ⟨l, t, r, b⟩) (h1 : l < x) (h2 : x < u) (h3 : u < r) (h4 : t < y) (h5 : y < v) (h6 : v < b) : ∀ c ∈ wheelA l t r b x y u v, Ok n m c := by
  obtain ⟨a1, a2, a3, a4, a5, a6⟩ := o
  dsimp only at a1 a2 a3 a4 a5 a6
  intro c hc
  simp only [wheelA, List.mem_cons, List.not_mem_nil, or_false] at hc
  have lu := Int.lt_trans h1 h2
  have xr := Int.lt_trans h2 h3
  have tv := Int.lt_trans h4 h5
  have yb := Int.lt_trans h5 h6
  have x0 := Int.le_trans a1 (Int.le_of_lt h1)
  have u0 := Int.le_trans a1 (Int.le_of_lt lu)
  have y0 := Int.le_trans a4 (Int.le_of_lt h4)
  have v0 := Int.le_trans a4 (Int.le_of_lt tv)
  have xn := Int.le_trans (Int.le_of_lt xr) a3
  have un := Int.le_trans (Int.le_of_lt h3) a3
  have ym := Int.le_trans (Int.le_of_lt yb) a6
  have vm := Int.le_trans (Int.le_of_lt h6) a6
  rcases hc with rfl | rfl | rfl | rfl | rfl
  · exact ⟨a1, lu, un, a4, h4, ym⟩
  · exact ⟨u0, h3, a3, a4, tv, vm⟩
  · exact ⟨x0, xr, a3, v0, h6, a6⟩
  · exact ⟨a1, h1, xn, y0, yb, a6⟩
  · exact ⟨x0, h2, un, y0, h5, vm⟩
theorem ok_wheelB {n m l t r b x y u v : Int} (o : Ok n m ⟨l, t, r, b⟩) (h1 : l < x) (h2 : x < u) (h3 : u < r) (h4 : t < y) (h5 : y < v) (h6 : v < b) : ∀ c ∈ wheelB l t r b x y u v, Ok n m c := by
  obtain ⟨a1, a2, a3, a4, a5, a6⟩ := o
  dsimp only at a1 a2 a3 a4 a5 a6
  intro c hc
  simp only [wheelB, List.mem_cons, List.not_mem_nil, or_false] at hc
  have lu := Int.lt_trans h1 h2
  have xr := Int.lt_trans h2 h3
  have tv := Int.lt_trans h4 h5
  have yb := Int.lt_trans h5 h6
  have x0 := Int.le_trans a1 (Int.le_of_lt h1)
  have u0 := Int.le_trans a1 (Int.le_of_lt lu)
  have y0 := Int.le_trans a4 (Int.le_of_lt h4)
  have v0 := Int.le_trans a4 (Int.le_of_lt tv)
  have xn := Int.le_trans (Int.le_of_lt xr) a3
  have un := Int.le_trans (Int.le_of_lt h3) a3
  have ym := Int.le_trans (Int.le_of_lt yb) a6
  have vm := Int.le_trans (Int.le_of_lt h6) a6
  rcases hc with rfl | rfl | rfl | rfl | rfl
  · exact ⟨x0, xr, a3, a4, h4, ym⟩
  · exact ⟨u0, h3, a3, y0, yb, a6⟩
  · exact ⟨a1, lu, un, v0, h6, a6⟩
  · exact ⟨a1, h1, xn, a4, tv, vm⟩
  · exact ⟨x0, h2, un, y0, h5, vm⟩
def cntI (p : Nat → Bool) : Nat → Nat
  | 0 => 0
  | i + 1 => cntI p i + (p i).toNat
theorem cntI_congr {p q : Nat → Bool} : ∀ (i : Nat), (∀ k, k < i → p k = q k) → cntI p i = cntI q i
  | 0, _ => rfl
  | i + 1, h => by
    show cntI p i + (p i).toNat = cntI q i + (q i).toNat
    rw [cntI_congr i fun k hk => h k (Nat.lt_succ_of_lt hk), h i (Nat.lt_succ_self i)]
theorem lt_succ_ind (m i : Nat) : (if m < i + 1 then 1 else 0) = (if m < i then 1 else 0) + (if m = i then 1 else 0) := by
  by_cases a : m < i
  · rw [if_pos a, if_pos (Nat.lt_succ_of_lt a), if_neg (Nat.ne_of_lt a)]
  · by_cases c : m = i
    · rw [if_neg a, if_pos c, if_pos (by rw [c]; exact Nat.lt_succ_self i)]
    · rw [if_neg a, if_neg c, if_neg (fun z => (Nat.lt_or_eq_of_le (Nat.le_of_lt_succ z)).elim a c)]
theorem cntI_two {p : Nat → Bool} {j k : Nat} (hj : p j = true) (hk : p k = true) (h : j ≠ k) : ∀ i, (if j < i then 1 else 0) + (if k < i then 1 else 0) ≤ cntI p i
  | 0 => Nat.le_refl 0
  | i + 1 => by
    have ih := cntI_two hj hk h i
    have this : (if j = i then 1 else 0) + (if k = i then 1 else 0) ≤ (p i).toNat := by
      by_cases a : j = i
      · subst a
        rw [hj, if_pos rfl, if_neg (Ne.symm h)]
        exact Nat.le_refl 1
      · by_cases c : k = i
        · subst c
          rw [hk, if_neg a, if_pos rfl]
          exact Nat.le_refl 1
        · rw [if_neg a, if_neg c]
          exact Nat.zero_le _
    show _ ≤ cntI p i + (p i).toNat
    rw [lt_succ_ind j, lt_succ_ind k, Nat.add_add_add_comm]
    exact Nat.add_le_add ih this
theorem cntI_is (j : Nat) : ∀ i, cntI (fun k => decide (k = j)) i = if j < i then 1 else 0
  | 0 => rfl
  | i + 1 => by
    show cntI _ i + (decide (i = j)).toNat = _
    rw [cntI_is j i, toNat_dec]
    repeat' split
    all_goals omega
def atB (bs : List Bx) (x y : Int) (k : Nat) : Bool := match bs[k]? with
  | some b => inB b x y
  | none => false
theorem cnt_take (bs : List Bx) (x y : Int) : ∀ i, i ≤ bs.length → cnt (bs.take i) x y = cntI (atB bs x y) i
  | 0, _ => rfl
  | i + 1, h => by
    have hi : i < bs.length := h
    rw [← List.take_append_getElem hi, cnt_append, cnt_take bs x y i (Nat.le_of_lt hi), cnt_cons, cnt_nil]
    show _ = cntI _ i + (atB bs x y i).toNat
    have e : atB bs x y i = inB bs[i] x y := by unfold atB; rw [List.getElem?_eq_getElem hi]
    rw [e]
    omega
theorem cnt_all (bs : List Bx) (x y : Int) : cnt bs x y = cntI (atB bs x y) bs.length := by
  have h := cnt_take bs x y bs.length (Nat.le_refl _)
  rwa [List.take_length] at h
theorem atB_some {bs : List Bx} {x y : Int} {k : Nat} {b : Bx} (h : bs[k]? = some b) : atB bs x y k = inB b x y := by unfold atB; rw [h]
theorem Tiles.apart {bs : List Bx} {n m : Int} (T : Tiles bs n m) {i j : Nat} {b c : Bx} (hi : bs[i]? = some b) (hj : bs[j]? = some c) (hne : i ≠ j) :
    b.r ≤ c.l ∨ c.r ≤ b.l ∨ b.b ≤ c.t ∨ c.b ≤ b.t := by
  have ob := T.wf b (List.mem_of_getElem? hi)
  have oc := T.wf c (List.mem_of_getElem? hj)
  obtain ⟨a1, a2, a3, a4, a5, a6⟩ := ob
  obtain ⟨c1, c2, c3, c4, c5, c6⟩ := oc
  have li : i < bs.length := (List.getElem?_eq_some_iff.mp hi).1
  have lj : j < bs.length := (List.getElem?_eq_some_iff.mp hj).1
  by_cases h1 : b.r ≤ c.l
  · exact .inl h1
  by_cases h2 : c.r ≤ b.l
  · exact .inr (.inl h2)
  by_cases h3 : b.b ≤ c.t
  · exact .inr (.inr (.inl h3))
  by_cases h4 : c.b ≤ b.t
  · exact .inr (.inr (.inr h4))
  exfalso
  have main : ∀ x y : Int, b.l ≤ x → c.l ≤ x → x < b.r → x < c.r → b.t ≤ y → c.t ≤ y → y < b.b → y < c.b → False := by
    intro x y x1 x2 x3 x4 y1 y2 y3 y4
    have q := T.one x y (by omega) (by omega) (by omega) (by omega)
    rw [cnt_all] at q
    have z := cntI_two (p := atB bs x y) (j := i) (k := j) (by rw [atB_some hi]; exact inB_iff.mpr ⟨x1, x3, y1, y3⟩) (by rw [atB_some hj]; exact inB_iff.mpr ⟨x2, x4, y2, y4⟩) hne bs.length
    rw [if_pos li, if_pos lj] at z
    omega
  by_cases p : b.l ≤ c.l <;> by_cases q : b.t ≤ c.t
  · exact main c.l c.t (by omega) (by omega) (by omega) (by omega) (by omega) (by omega) (by omega) (by omega)
  · exact main c.l b.t (by omega) (by omega) (by omega) (by omega) (by omega) (by omega) (by omega) (by omega)
  · exact main b.l c.t (by omega) (by omega) (by omega) (by omega) (by omega) (by omega) (by omega) (by omega)
  · exact main b.l b.t (by omega) (by omega) (by omega) (by omega) (by omega) (by omega) (by omega) (by omega)
def strip (B : Bx) (w : Nat) : Bx := match w with
  | 0 => ⟨B.r, B.t, B.r + 1, B.b⟩
  | 1 => ⟨B.l - 1, B.t, B.l, B.b⟩
  | 2 => ⟨B.l, B.b, B.r, B.b + 1⟩
  | _ => ⟨B.l, B.t - 1, B.r, B.t⟩
def hit (S b : Bx) : Prop := b.l < S.r ∧ S.l < b.r ∧ b.t < S.b ∧ S.t < b.b
instance (S b : Bx) : Decidable (hit S b) := by unfold hit; exact inferInstance
def bad (B b : Bx) (w : Nat) : Prop := (w < 2 ∧ (b.t < B.t ∨ B.b < b.b)) ∨ (1 < w ∧ (b.l < B.l ∨ B.r < b.r))
instance (B b : Bx) (w : Nat) : Decidable (bad B b w) := by unfold bad; exact inferInstance
def trim (S b : Bx) (w : Nat) : Bx := match w with
  | 0 => ⟨S.r, b.t, b.r, b.b⟩
  | 1 => ⟨b.l, b.t, S.l, b.b⟩
  | 2 => ⟨b.l, S.b, b.r, b.b⟩
  | _ => ⟨b.l, b.t, b.r, S.t⟩
def join (S b : Bx) : Bx := ⟨min b.l S.l, min b.t S.t, max b.r S.r, max b.b S.b⟩
def newB (at_ : Nat) (S : Bx) (w k : Nat) (b : Bx) : Bx := if k = at_ then join S b else if hit S b then trim S b w else b
def full (b : Bx) : Prop := b.l < b.r ∧ b.t < b.b
instance (b : Bx) : Decidable (full b) := by unfold full; exact inferInstance
def one (at_ : Nat) (S : Bx) (w k : Nat) (b : Bx) : List Bx := if full (newB at_ S w k b) then [newB at_ S w k b] else []
def grTo (bs : List Bx) (at_ : Nat) (S : Bx) (w : Nat) : Nat → List Bx
  | 0 => []
  | i + 1 => grTo bs at_ S w i ++ (match bs[i]? with | some b => one at_ S w i b | none => [])
theorem grTo_succ {bs : List Bx} {at_ : Nat} {S : Bx} {w i : Nat} {b : Bx} (h : bs[i]? = some b) : grTo bs at_ S w (i + 1) = grTo bs at_ S w i ++ one at_ S w i b := by
  show grTo bs at_ S w i ++ (match bs[i]? with | some b => one at_ S w i b | none => []) = _
  rw [h]
theorem one_len (at_ : Nat) (S : Bx) (w k : Nat) (b : Bx) : (one at_ S w k b).length ≤ 1 := by unfold one; split <;> simp
theorem grTo_len (bs : List Bx) (at_ : Nat) (S : Bx) (w : Nat) : ∀ i, (grTo bs at_ S w i).length ≤ i
  | 0 => Nat.le_refl _
  | i + 1 => by
    have ih := grTo_len bs at_ S w i
    show (grTo bs at_ S w i ++ _).length ≤ _
    rw [List.length_append]
    cases bs[i]? with
    | none => simp; omega
    | some b => have := one_len at_ S w i b; simp only; omega
theorem cnt_one (at_ : Nat) (S : Bx) (w k : Nat) (b : Bx) (x y : Int) : cnt (one at_ S w k b) x y = (inB (newB at_ S w k b) x y).toNat := by
  unfold one
  by_cases h : full (newB at_ S w k b)
  · rw [if_pos h, cnt_cons, cnt_nil]; omega
  · rw [if_neg h, cnt_nil, inB_nat, if_neg]
    intro ⟨h1, h2, h3, h4⟩
    exact h ⟨by omega, by omega⟩
def atN (bs : List Bx) (at_ : Nat) (S : Bx) (w : Nat) (x y : Int) (k : Nat) : Bool := match bs[k]? with
  | some b => inB (newB at_ S w k b) x y
  | none => false
theorem cnt_grTo (bs : List Bx) (at_ : Nat) (S : Bx) (w : Nat) (x y : Int) : ∀ i, cnt (grTo bs at_ S w i) x y = cntI (atN bs at_ S w x y) i
  | 0 => rfl
  | i + 1 => by
    show cnt (grTo bs at_ S w i ++ _) x y = cntI _ i + (atN bs at_ S w x y i).toNat
    rw [cnt_append, cnt_grTo bs at_ S w x y i]
    unfold atN
    cases bs[i]? with
    | none => rfl
    | some b => simp only; rw [cnt_one]
theorem mem_grTo {bs : List Bx} {at_ : Nat} {S : Bx} {w : Nat} {c : Bx} : ∀ {i}, c ∈ grTo bs at_ S w i → ∃ k b, bs[k]? = some b ∧ c = newB at_ S w k b ∧ full c
  | 0, h => nomatch h
  | i + 1, h => by
    have h : c ∈ grTo bs at_ S w i ++ (match bs[i]? with | some b => one at_ S w i b | none => []) := h
    rcases List.mem_append.mp h with h | h
    · exact mem_grTo h
    · cases e : bs[i]? with
      | none => rw [e] at h; exact nomatch h
      | some b =>
        rw [e] at h
        simp only [one] at h
        split at h
        · rename_i hf
          obtain rfl := List.mem_singleton.mp h
          exact ⟨i, b, e, rfl, hf⟩
        · exact nomatch h
theorem ok_trim {n : Int} {S b : Bx} (o : Ok n n b) : ∀ {w : Nat}, w < 4 → (trim S b w).l < (trim S b w).r → (trim S b w).t < (trim S b w).b → 0 ≤ S.r → 0 ≤ S.b → S.l ≤ n → S.t ≤ n → Ok n n (trim S b w)
  | 0, _, f1, f2, k1, _, _, _ => ⟨k1, f1, o.h2, o.v0, f2, o.v2⟩
  | 1, _, f1, f2, _, _, k3, _ => ⟨o.h0, f1, k3, o.v0, f2, o.v2⟩
  | 2, _, f1, f2, _, k2, _, _ => ⟨o.h0, f1, o.h2, k2, f2, o.v2⟩
  | _ + 3, _, f1, f2, _, _, _, k4 => ⟨o.h0, f1, o.h2, o.v0, f2, k4⟩
theorem trim_out {S b : Bx} {x y : Int} : ∀ {w : Nat}, inB (trim S b w) x y = true → inB S x y = true → False
  | 0, z, s => Int.not_lt.mpr (inB_iff.mp z).1 (inB_iff.mp s).2.1
  | 1, z, s => Int.not_lt.mpr (inB_iff.mp s).1 (inB_iff.mp z).2.1
  | 2, z, s => Int.not_lt.mpr (inB_iff.mp z).2.2.1 (inB_iff.mp s).2.2.2
  | _ + 3, z, s => Int.not_lt.mpr (inB_iff.mp s).2.2.1 (inB_iff.mp z).2.2.2
def In4 (c : Bx) (x y : Int) : Prop := c.l ≤ x ∧ x < c.r ∧ c.t ≤ y ∧ y < c.b
theorem join_off {B : Bx} {x y : Int} (h1 : B.l < B.r) (h2 : B.t < B.b) : ∀ {w : Nat}, w < 4 → ¬ In4 (strip B w) x y → (In4 (join (strip B w) B) x y ↔ In4 B x y)
  | 0, _, no => by
    show (min B.l B.r ≤ x ∧ x < max B.r (B.r + 1) ∧ min B.t B.t ≤ y ∧ y < max B.b B.b) ↔ _
    rw [Int.min_eq_left (Int.le_of_lt h1), Int.max_eq_right (Int.le_of_lt (Int.lt_succ _)), Int.min_self, Int.max_self]
    exact ⟨fun ⟨a, b, c, d⟩ => ⟨a, Int.not_le.mp fun z => no ⟨z, b, c, d⟩, c, d⟩, fun ⟨a, b, c, d⟩ => ⟨a, Int.lt_trans b (Int.lt_succ _), c, d⟩⟩
  | 1, _, no => by
    have k : B.l - 1 ≤ B.l := Int.sub_le_self _ (by decide)
    show (min B.l (B.l - 1) ≤ x ∧ x < max B.r B.l ∧ min B.t B.t ≤ y ∧ y < max B.b B.b) ↔ _
    rw [Int.min_eq_right k, Int.max_eq_left (Int.le_of_lt h1), Int.min_self, Int.max_self]
    exact ⟨fun ⟨a, b, c, d⟩ => ⟨Int.not_lt.mp fun z => no ⟨a, z, c, d⟩, b, c, d⟩, fun ⟨a, b, c, d⟩ => ⟨Int.le_trans k a, b, c, d⟩⟩
  | 2, _, no => by
    show (min B.l B.l ≤ x ∧ x < max B.r B.r ∧ min B.t B.b ≤ y ∧ y < max B.b (B.b + 1)) ↔ _
    rw [Int.min_self, Int.max_self, Int.min_eq_left (Int.le_of_lt h2), Int.max_eq_right (Int.le_of_lt (Int.lt_succ _))]
    exact ⟨fun ⟨a, b, c, d⟩ => ⟨a, b, c, Int.not_le.mp fun z => no ⟨a, b, z, d⟩⟩, fun ⟨a, b, c, d⟩ => ⟨a, b, c, Int.lt_trans d (Int.lt_succ _)⟩⟩
  | 3, _, no => by
    have k : B.t - 1 ≤ B.t := Int.sub_le_self _ (by decide)
    show (min B.l B.l ≤ x ∧ x < max B.r B.r ∧ min B.t (B.t - 1) ≤ y ∧ y < max B.b B.t) ↔ _
    rw [Int.min_self, Int.max_self, Int.min_eq_right k, Int.max_eq_left (Int.le_of_lt h2)]
    exact ⟨fun ⟨a, b, c, d⟩ => ⟨a, b, Int.not_lt.mp fun z => no ⟨a, b, c, z⟩, d⟩, fun ⟨a, b, c, d⟩ => ⟨a, b, Int.le_trans k c, d⟩⟩
theorem trim_off {B b : Bx} {x y : Int} (h1 : B.l < B.r) (h2 : B.t < B.b) (o1 : b.l < b.r) (o2 : b.t < b.b) (ap : b.r ≤ B.l ∨ B.r ≤ b.l ∨ b.b ≤ B.t ∨ B.b ≤ b.t) : ∀ {w : Nat}, w < 4 → hit (strip B w) b → ¬ bad B b w → ¬ In4 (strip B w) x y → (In4 (trim (strip B w) b w) x y ↔ In4 b x y)
  | 0, _, ⟨r1, r2, r3, r4⟩, nb, no => by
    have n1 : B.t ≤ b.t := Int.not_lt.mp fun z => nb (.inl ⟨by decide, .inl z⟩)
    have n2 : b.b ≤ B.b := Int.not_lt.mp fun z => nb (.inl ⟨by decide, .inr z⟩)
    have r1 : b.l < B.r + 1 := r1
    have r2 : B.r < b.r := r2
    have e : B.r ≤ b.l := by clear no nb r3 r4; omega
    show (B.r + 1 ≤ x ∧ x < b.r ∧ b.t ≤ y ∧ y < b.b) ↔ _
    exact ⟨fun ⟨a, c, d, f⟩ => ⟨Int.le_trans (Int.le_of_lt r1) a, c, d, f⟩, fun ⟨a, c, d, f⟩ => ⟨Int.not_lt.mp fun z => no ⟨Int.le_trans e a, z, Int.le_trans n1 d, Int.lt_of_lt_of_le f n2⟩, c, d, f⟩⟩
  | 1, _, ⟨r1, r2, r3, r4⟩, nb, no => by
    have n1 : B.t ≤ b.t := Int.not_lt.mp fun z => nb (.inl ⟨by decide, .inl z⟩)
    have n2 : b.b ≤ B.b := Int.not_lt.mp fun z => nb (.inl ⟨by decide, .inr z⟩)
    have r1 : b.l < B.l := r1
    have r2 : B.l - 1 < b.r := r2
    have e : b.r ≤ B.l := by clear no nb r3 r4; omega
    show (b.l ≤ x ∧ x < B.l - 1 ∧ b.t ≤ y ∧ y < b.b) ↔ _
    exact ⟨fun ⟨a, c, d, f⟩ => ⟨a, Int.lt_trans c r2, d, f⟩, fun ⟨a, c, d, f⟩ => ⟨a, Int.not_le.mp fun z => no ⟨z, Int.lt_of_lt_of_le c e, Int.le_trans n1 d, Int.lt_of_lt_of_le f n2⟩, d, f⟩⟩
  | 2, _, ⟨r1, r2, r3, r4⟩, nb, no => by
    have n1 : B.l ≤ b.l := Int.not_lt.mp fun z => nb (.inr ⟨by decide, .inl z⟩)
    have n2 : b.r ≤ B.r := Int.not_lt.mp fun z => nb (.inr ⟨by decide, .inr z⟩)
    have r3 : b.t < B.b + 1 := r3
    have r4 : B.b < b.b := r4
    have e : B.b ≤ b.t := by clear no nb r1 r2; omega
    show (b.l ≤ x ∧ x < b.r ∧ B.b + 1 ≤ y ∧ y < b.b) ↔ _
    exact ⟨fun ⟨a, c, d, f⟩ => ⟨a, c, Int.le_trans (Int.le_of_lt r3) d, f⟩, fun ⟨a, c, d, f⟩ => ⟨a, c, Int.not_lt.mp fun z => no ⟨Int.le_trans n1 a, Int.lt_of_lt_of_le c n2, Int.le_trans e d, z⟩, f⟩⟩
  | 3, _, ⟨r1, r2, r3, r4⟩, nb, no => by
    have n1 : B.l ≤ b.l := Int.not_lt.mp fun z => nb (.inr ⟨by decide, .inl z⟩)
    have n2 : b.r ≤ B.r := Int.not_lt.mp fun z => nb (.inr ⟨by decide, .inr z⟩)
    have r3 : b.t < B.t := r3
    have r4 : B.t - 1 < b.b := r4
    have e : b.b ≤ B.t := by clear no nb r1 r2; omega
    show (b.l ≤ x ∧ x < b.r ∧ b.t ≤ y ∧ y < B.t - 1) ↔ _
    exact ⟨fun ⟨a, c, d, f⟩ => ⟨a, c, d, Int.lt_trans f r4⟩, fun ⟨a, c, d, f⟩ => ⟨a, c, d, Int.not_le.mp fun z => no ⟨Int.le_trans n1 a, Int.lt_of_lt_of_le c n2, z, Int.lt_of_lt_of_le f e⟩⟩⟩
theorem tiles_grown {bs : List Bx} {n : Int} {at_ w : Nat} {B : Bx} (T : Tiles bs n n) (hat : bs[at_]? = some B) (hw : w < 4)
    (h0 : 0 ≤ (strip B w).l ∧ 0 ≤ (strip B w).t) (h1 : (strip B w).r ≤ n ∧ (strip B w).b ≤ n)
    (hb : ∀ k b, bs[k]? = some b → k ≠ at_ → hit (strip B w) b → ¬ bad B b w) : Tiles (grTo bs at_ (strip B w) w bs.length) n n := by
  have la : at_ < bs.length := (List.getElem?_eq_some_iff.mp hat).1
  obtain ⟨B1, B2, B3, B4, B5, B6⟩ := T.wf B (List.mem_of_getElem? hat)
  refine ⟨fun c hc => ?_, fun x y x1 x2 y1 y2 => ?_⟩
  · obtain ⟨k, b, hk, rfl, f1, f2⟩ := mem_grTo hc
    obtain ⟨b1, b2, b3, b4, b5, b6⟩ := T.wf b (List.mem_of_getElem? hk)
    revert f1 f2
    unfold newB
    by_cases e : k = at_
    · subst e
      rw [hat] at hk
      cases hk
      rw [if_pos rfl]
      intro f1 f2
      obtain ⟨g1, g2⟩ := h0
      obtain ⟨g3, g4⟩ := h1
      exact ⟨Int.le_min.mpr ⟨B1, g1⟩, f1, Int.max_le.mpr ⟨B3, g3⟩, Int.le_min.mpr ⟨B4, g2⟩, f2, Int.max_le.mpr ⟨B6, g4⟩⟩
    · rw [if_neg e]
      by_cases q : hit (strip B w) b
      · rw [if_pos q]
        intro f1 f2
        obtain ⟨g1, g2⟩ := h0
        obtain ⟨g3, g4⟩ := h1
        obtain ⟨q1, q2, q3, q4⟩ := q
        exact ok_trim ⟨b1, b2, b3, b4, b5, b6⟩ hw f1 f2 (Int.le_trans b1 (Int.le_of_lt q1)) (Int.le_trans b4 (Int.le_of_lt q3)) (Int.le_trans (Int.le_of_lt q2) b3) (Int.le_trans (Int.le_of_lt q4) b6)
      · rw [if_neg q]
        intro _ _
        exact ⟨b1, b2, b3, b4, b5, b6⟩
  · rw [cnt_grTo]
    have q := T.one x y x1 x2 y1 y2
    rw [cnt_all] at q
    by_cases hs : inB (strip B w) x y = true
    · -- in the strip: the box at at_ alone
      rw [cntI_congr (q := fun k => decide (k = at_)) bs.length, cntI_is, if_pos la]
      intro k hk
      have ek : bs[k]? = some bs[k] := List.getElem?_eq_getElem hk
      generalize bs[k] = b at ek
      unfold atN
      rw [ek]
      simp only [newB]
      obtain ⟨s1, s2, s3, s4⟩ := inB_iff.mp hs
      by_cases e : k = at_
      · subst e
        rw [hat] at ek
        cases ek
        rw [if_pos rfl, decide_eq_true rfl]
        exact inB_iff.mpr ⟨Int.le_trans (Int.min_le_right _ _) s1, Int.lt_of_lt_of_le s2 (Int.le_max_right _ _), Int.le_trans (Int.min_le_right _ _) s3, Int.lt_of_lt_of_le s4 (Int.le_max_right _ _)⟩
      · rw [if_neg e, decide_eq_false e]
        rw [Bool.eq_false_iff]
        intro z
        by_cases r : hit (strip B w) b
        · rw [if_pos r] at z
          exact trim_out z hs
        · rw [if_neg r] at z
          have z := inB_iff.mp z
          exact r ⟨by omega, by omega, by omega, by omega⟩
    · rw [cntI_congr (q := atB bs x y) bs.length]
      · exact q
      intro k hk
      have ek : bs[k]? = some bs[k] := List.getElem?_eq_getElem hk
      generalize bs[k] = b at ek
      unfold atN
      rw [atB_some ek, ek]
      simp only [newB]
      have hs' : ¬ ((strip B w).l ≤ x ∧ x < (strip B w).r ∧ (strip B w).t ≤ y ∧ y < (strip B w).b) := fun z => hs (inB_iff.mpr z)
      have two : ∀ (c d : Bx), ((c.l ≤ x ∧ x < c.r ∧ c.t ≤ y ∧ y < c.b) ↔ (d.l ≤ x ∧ x < d.r ∧ d.t ≤ y ∧ y < d.b)) → inB c x y = inB d x y := fun c d h => by
        rw [Bool.eq_iff_iff, inB_iff, inB_iff]
        exact h
      by_cases e : k = at_
      · subst e
        rw [hat] at ek
        cases ek
        rw [if_pos rfl]
        exact two _ _ (join_off B2 B5 hw hs')
      · rw [if_neg e]
        by_cases r : hit (strip B w) b
        · rw [if_pos r]
          have o := T.wf b (List.mem_of_getElem? ek)
          exact two _ _ (trim_off B2 B5 o.h1 o.v1 (T.apart ek hat e) hw r (hb k b ek e r) hs')
        · rw [if_neg r]
def Rising (xs : List Int) : Prop := ∀ i j : Nat, i < j → j < xs.length → xs.getD i 0 < xs.getD j 0
theorem rising_le {xs : List Int} (R : Rising xs) {i j : Nat} (h : i ≤ j) (hj : j < xs.length) : xs.getD i 0 ≤ xs.getD j 0 := by
  rcases Nat.lt_or_eq_of_le h with h | rfl
  · exact Int.le_of_lt (R i j h hj)
  · exact Int.le_refl _
theorem rising_snoc {xs : List Int} {z : Int} (R : Rising xs) (hl : 0 < xs.length) (hz : xs.getD (xs.length - 1) 0 < z) : Rising (xs ++ [z]) := by
  intro i j hij hj
  rw [List.length_append, List.length_singleton] at hj
  have e1 : ∀ k, k < xs.length → (xs ++ [z]).getD k 0 = xs.getD k 0 := fun k hk => by
    rw [List.getD_eq_getElem?_getD, List.getD_eq_getElem?_getD, List.getElem?_append_left hk]
  have e2 : (xs ++ [z]).getD xs.length 0 = z := by simp [List.getD]
  by_cases h : j < xs.length
  · rw [e1 i (by omega), e1 j h]
    exact R i j hij h
  · have ej : j = xs.length := by omega
    subst ej
    rw [e1 i (by omega), e2]
    exact Int.lt_of_le_of_lt (rising_le R (by omega) (by omega)) hz
theorem between {xs : List Int} (x : Int) : ∀ n : Nat, n < xs.length → xs.getD 0 0 ≤ x → x < xs.getD n 0 → ∃ i, i < n ∧ xs.getD i 0 ≤ x ∧ x < xs.getD (i + 1) 0
  | 0, _, h1, h2 => by omega
  | n + 1, hl, h1, h2 => by
    by_cases h : x < xs.getD n 0
    · obtain ⟨i, a, b⟩ := between x n (by omega) h1 h
      exact ⟨i, by omega, b⟩
    · exact ⟨n, Nat.lt_succ_self n, by omega, h2⟩
def lay (xs ys : List Int) (b : Bx) : Bx := ⟨xs.getD b.l.toNat 0, ys.getD b.t.toNat 0, xs.getD b.r.toNat 0, ys.getD b.b.toNat 0⟩
theorem lay_side {xs : List Int} (R : Rising xs) {x : Int} {i k : Nat} (hk : k < xs.length) (hi : i + 1 < xs.length) (h1 : xs.getD i 0 ≤ x) (h2 : x < xs.getD (i + 1) 0) : (xs.getD k 0 ≤ x ↔ k ≤ i) := by
  constructor
  · intro h
    refine Nat.le_of_not_lt fun q => ?_
    have := rising_le R (i := i + 1) (j := k) q hk
    omega
  · intro h
    have := rising_le R h (by omega : i < xs.length)
    omega
theorem tn_in {v : Int} {n L : Nat} (h : v ≤ n) (hL : L = n + 1) : v.toNat < L := by
  rw [hL]
  exact Nat.lt_succ_of_le (Int.toNat_le.mpr h)
theorem tn_lt {u v : Int} (h0 : 0 ≤ u) (h : u < v) : u.toNat < v.toNat := by omega
theorem tiles_laid {bs : List Bx} {xs ys : List Int} {n : Nat} (T : Tiles bs n n) (Rx : Rising xs) (Ry : Rising ys) (lx : xs.length = n + 1) (ly : ys.length = n + 1) (x0 : xs.getD 0 0 = 0) (y0 : ys.getD 0 0 = 0) :
    Tiles (bs.map (lay xs ys)) (xs.getD n 0) (ys.getD n 0) := by
  refine ⟨fun c hc => ?_, fun x y x1 x2 y1 y2 => ?_⟩
  · obtain ⟨b, hb, rfl⟩ := List.mem_map.mp hc
    obtain ⟨b1, b2, b3, b4, b5, b6⟩ := T.wf b hb
    have hl : b.l ≤ n := Int.le_trans (Int.le_of_lt b2) b3
    have ht : b.t ≤ n := Int.le_trans (Int.le_of_lt b5) b6
    have hn : n < xs.length := by rw [lx]; exact Nat.lt_succ_self n
    have hm : n < ys.length := by rw [ly]; exact Nat.lt_succ_self n
    refine ⟨?_, Rx _ _ (tn_lt b1 b2) (tn_in b3 lx), rising_le Rx (Int.toNat_le.mpr b3) hn, ?_, Ry _ _ (tn_lt b4 b5) (tn_in b6 ly), rising_le Ry (Int.toNat_le.mpr b6) hm⟩
    · have q := rising_le Rx (i := 0) (j := b.l.toNat) (Nat.zero_le _) (tn_in hl lx)
      rw [x0] at q
      exact q
    · have q := rising_le Ry (i := 0) (j := b.t.toNat) (Nat.zero_le _) (tn_in ht ly)
      rw [y0] at q
      exact q
  · obtain ⟨i, i1, i2, i3⟩ := between x n (by omega) (by omega) x2
    obtain ⟨j, j1, j2, j3⟩ := between y n (by omega) (by omega) y2
    have q := T.one i j (by omega) (by omega) (by omega) (by omega)
    rw [← q]
    unfold cnt
    rw [List.countP_map]
    refine List.countP_congr fun b hb => ?_
    obtain ⟨b1, b2, b3, b4, b5, b6⟩ := T.wf b hb
    show inB (lay xs ys b) x y = true ↔ inB b i j = true
    rw [inB_iff, inB_iff]
    have hi : i + 1 < xs.length := by rw [lx]; exact Nat.succ_lt_succ i1
    have hj : j + 1 < ys.length := by rw [ly]; exact Nat.succ_lt_succ j1
    have s1 := lay_side Rx (k := b.l.toNat) (tn_in (Int.le_trans (Int.le_of_lt b2) b3) lx) hi i2 i3
    have s2 := lay_side Rx (k := b.r.toNat) (tn_in b3 lx) hi i2 i3
    have s3 := lay_side Ry (k := b.t.toNat) (tn_in (Int.le_trans (Int.le_of_lt b5) b6) ly) hj j2 j3
    have s4 := lay_side Ry (k := b.b.toNat) (tn_in b6 ly) hj j2 j3
    refine and_congr (s1.trans Int.toNat_le) (and_congr ?_ (and_congr (s3.trans Int.toNat_le) ?_))
    · exact Int.not_le.symm.trans ((not_congr (s2.trans Int.toNat_le)).trans Int.not_le)
    · exact Int.not_le.symm.trans ((not_congr (s4.trans Int.toNat_le)).trans Int.not_le)
theorem tiles_perm {bs cs : List Bx} {n m : Int} (T : Tiles bs n m) (p : cs.Perm bs) : Tiles cs n m :=
  ⟨fun b hb => T.wf b (p.mem_iff.mp hb), fun x y h1 h2 h3 h4 => by rw [← T.one x y h1 h2 h3 h4]; exact p.countP_eq _⟩
theorem tiles_find {bs : List Bx} {n m : Int} (T : Tiles bs n m) {x y : Int} (h1 : 0 ≤ x) (h2 : x < n) (h3 : 0 ≤ y) (h4 : y < m) :
    ∃ (k : Nat) (b : Bx), bs[k]? = some b ∧ inB b x y = true ∧ ∀ (j : Nat) (c : Bx), bs[j]? = some c → inB c x y = true → j = k := by
  have q := T.one x y h1 h2 h3 h4
  have p : 0 < bs.countP (inB · x y) := by unfold cnt at q; omega
  obtain ⟨b, hb, hin⟩ := List.countP_pos_iff.mp p
  obtain ⟨k, hk⟩ := List.mem_iff_getElem?.mp hb
  refine ⟨k, b, hk, hin, fun j c hj hc => ?_⟩
  refine Classical.byContradiction fun ne => ?_
  rw [cnt_all] at q
  have z := cntI_two (p := atB bs x y) (j := j) (k := k) (by rw [atB_some hj]; exact hc) (by rw [atB_some hk]; exact hin) ne bs.length
  rw [if_pos (List.getElem?_eq_some_iff.mp hj).1, if_pos (List.getElem?_eq_some_iff.mp hk).1] at z
  omega
end Til
set_option Elab.async false
set_option linter.all false
set_option maxRecDepth 100000
set_option maxHeartbeats 4000000
namespace KO
open PySem L2 Til
def top (i : Nat) : Stmt := PySem.Challenge.pw_pagepart_k13_beside_and_beneath.main.body.getD i (.Pass ⟨0, 0, 0, 0⟩)
abbrev sIsB : Stmt := top 6
abbrev sIsD : Stmt := top 7
abbrev sPairs : Stmt := top 8
abbrev sBeside : Stmt := top 9
abbrev sBeneath : Stmt := top 10
abbrev sOwn : Stmt := top 19
abbrev sStir : Stmt := top 12
abbrev sCell : Stmt := top 13
abbrev sGrown : Stmt := top 14
abbrev sWheel : Stmt := top 15
abbrev sGrid : Stmt := top 16
abbrev sLines : Stmt := top 17
abbrev sLaid : Stmt := top 18
abbrev sTold : Stmt := top 21
abbrev sLaw : Stmt := top 22
theorem fresh {H : Hp} {p : Addr} {o : HO} {R : Hp → Prop} (hn : H p = none) (k : ∀ H1, Same H H1 → H1 p = some o → R H1) : R (upd H p o) :=
  k _ (fun b u e => by rw [upd_ne (ne_of_none e hn)]; exact e) upd_same
def bxV (b : Bx) : List V := [.int b.l, .int b.t, .int b.r, .int b.b]
def BoxAt (H : Hp) (v : V) (b : Bx) : Prop := ∃ p, v = .ref p ∧ H p = some (.tup (bxV b))
def BoxesAt (H : Hp) : List V → List Bx → Prop := Paired (BoxAt H)
theorem BoxAt.same {H H' : Hp} (S : Same H H') {v : V} {b : Bx} (h : BoxAt H v b) : BoxAt H' v b := let ⟨p, e, z⟩ := h; ⟨p, e, S _ _ z⟩
theorem BoxesAt.same {H H' : Hp} (S : Same H H') : ∀ {vs : List V} {bs : List Bx}, BoxesAt H vs bs → BoxesAt H' vs bs
  | _, _, .nil => .nil
  | _, _, .cons h t => .cons (h.same S) (BoxesAt.same S t)
theorem BoxesAt.len {H : Hp} {vs : List V} {bs : List Bx} (h : BoxesAt H vs bs) : vs.length = bs.length := Paired.length h
theorem BoxesAt.get {H : Hp} : ∀ {vs : List V} {bs : List Bx} {i : Nat} {b : Bx}, BoxesAt H vs bs → bs[i]? = some b → ∃ v, vs[i]? = some v ∧ BoxAt H v b
  | _, _, _, _, .nil, e => by simp at e
  | _, _, 0, _, .cons r _, e => by simp at e; subst e; exact ⟨_, rfl, r⟩
  | _, _, i + 1, b, .cons _ t, e => by
    obtain ⟨v, h1, h2⟩ := BoxesAt.get (i := i) (b := b) t (by simpa using e)
    exact ⟨v, by simpa using h1, h2⟩
theorem BoxesAt.append {H : Hp} : ∀ {vs us : List V} {bs cs : List Bx}, BoxesAt H vs bs → BoxesAt H us cs → BoxesAt H (vs ++ us) (bs ++ cs)
  | _, _, _, _, .nil, s => s
  | _, _, _, _, .cons r t, s => .cons r (BoxesAt.append t s)
theorem BoxesAt.take {H : Hp} : ∀ {vs : List V} {bs : List Bx} (n : Nat), BoxesAt H vs bs → BoxesAt H (vs.take n) (bs.take n)
  | _, _, 0, _ => .nil
  | _, _, _ + 1, .nil => .nil
  | _, _, n + 1, .cons r t => .cons r (BoxesAt.take n t)
theorem BoxesAt.drop {H : Hp} : ∀ {vs : List V} {bs : List Bx} (n : Nat), BoxesAt H vs bs → BoxesAt H (vs.drop n) (bs.drop n)
  | _, _, 0, r => r
  | _, _, _ + 1, .nil => .nil
  | _, _, n + 1, .cons _ t => BoxesAt.drop n t
def spStir : Sp := fun vs H Q _ => ∃ c k : Int, vs = [.int c, .int k] ∧ -1000 ≤ k ∧ k ≤ 1000 ∧ ∀ n : Int, Q (.int n) H
def spCell (K : PySem.W.Frag) : Sp := fun vs H Q _ => ∃ (a : Addr) (ns : List Int) (k : Int), vs = [.ref a, .int k] ∧ SqL K H a (ns.map V.int) ∧ 0 ≤ k ∧ k ≤ 1000 ∧ ∀ n : Int, Q (.int n) H
section
variable {P : Program} {w : World} {K : PySem.W.Frag} {mg : Str → Option Value} {base : Heap}
theorem scStir : FnScope ["cell", "k", "number"] ["cell", "k"] (defScope sStir) := ⟨rfl, rfl, rfl, by decide +kernel, rfl, by decide +kernel, by decide +kernel⟩
theorem ok_stir {f : Addr} {fd : FuncData} (F : Fun K "_law_stir" "_law_stir" sStir f fd) : FnOk P w K mg base CX0 1 f fd ["cell", "k"] spStir := by
  refine F.ok scStir (fun vs H Q E h => ?_) (fun cdv A outer s H vs Q E hr h => ?_)
  · obtain ⟨c, k, rfl, _⟩ := h
    rfl
  · obtain ⟨c, k, rfl, k1, k2, q⟩ := h
    refine ⟨_, pss_cons (ps_set (i := 2) scStir.nd rfl (Or.inl rfl) (pe_op op_mod (pe_op op_mul (pe_op op_add (pe_op op_add (pe_op op_mod (pv 0) pe_int) (pe_op op_mul pe_int (pv 1))) pe_int) pe_int) pe_int))
      (pss_cons (ps_set (i := 2) scStir.nd rfl (Or.inl rfl) (pe_op op_mod (pe_op op_mul (pv 2) (pv 2)) pe_int))
      (pss_one (ps_ret (pe_op op_mod (pe_op op_mul (pv 2) pe_int) pe_int)))), ?_⟩
    have m1 := Int.emod_nonneg c (show (2147483629 : Int) ≠ 0 by decide)
    have m2 := Int.emod_lt_of_pos c (show (0 : Int) < 2147483629 by decide)
    refine ⟨_, rfl, _, _, rfl, rfl, (by show (0 : Int) < 2147483629; decide), _, rfl, _, _, rfl, rfl, .inl ⟨by decide, by decide⟩, _, _, rfl, rfl, _, _, rfl, rfl, _, _, rfl, rfl, .inl ⟨by omega, by omega⟩, _, _, rfl, rfl, (by show (0 : Int) < 2147483647; decide), ?_⟩
    generalize hA : (c % 2147483629 + 7919 * k + 1) * 48271 = a
    have a1 := Int.emod_nonneg a (show (2147483647 : Int) ≠ 0 by decide)
    have a2 := Int.emod_lt_of_pos a (show (0 : Int) < 2147483647 by decide)
    refine ⟨_, rfl, _, rfl, _, _, rfl, rfl, .inl ⟨by omega, by omega⟩, _, _, rfl, rfl, (by show (0 : Int) < 2147483629; decide), ?_⟩
    generalize a % 2147483647 * (a % 2147483647) = b
    have b1 := Int.emod_nonneg b (show (2147483629 : Int) ≠ 0 by decide)
    have b2 := Int.emod_lt_of_pos b (show (0 : Int) < 2147483629 by decide)
    exact ⟨_, rfl, _, _, rfl, rfl, .inl ⟨by omega, by omega⟩, _, _, rfl, rfl, (by show (0 : Int) < 2147483563; decide), q _⟩
end
end KO
set_option Elab.async false
set_option linter.all false
set_option maxRecDepth 100000
set_option maxHeartbeats 4000000
namespace KO
open PySem L2 Til
structure Callee (P : Program) (w : World) (K : PySem.W.Frag) (mg : Str → Option Value) (base : Heap) (CX : CXT) (k : Nat) (x : Str) (f : Addr) (fd : FuncData) (ps : List Str) (sp : Sp) : Prop where
  ok : FnOk P w K mg base CX k f fd ps sp
  bound : mg x = some (.ref f)
  kp : PySem.W.keepIn K (.ref f) = true
  bd : Binds K fd ps []
theorem at_map {ns : List Int} {k : Int} (h0 : 0 ≤ k) (h1 : k < ns.length) : atI (ns.map V.int) k = some (.int (ns.getD k.toNat 0)) := by
  obtain ⟨j, rfl⟩ := Int.eq_ofNat_of_zero_le h0
  refine atI_nat ?_
  rw [List.getElem?_map, List.getElem?_eq_getElem (by omega)]
  simp [List.getD, show j < ns.length by omega]
theorem at_lastI {ns : List Int} (h : 0 < ns.length) : atI (ns.map V.int) (-1) = some (.int (ns.getD (ns.length - 1) 0)) := by
  have e : ns = ns.dropLast ++ [ns.getD (ns.length - 1) 0] := by
    have hn : ns ≠ [] := by intro z; rw [z] at h; simp at h
    have e1 := (List.dropLast_concat_getLast hn).symm
    have e2 : ns.getLast hn = ns.getD (ns.length - 1) 0 := by
      rw [List.getLast_eq_getElem, L2.getD_at (by omega)]
    rw [← e2]
    exact e1
  have e3 : ns.map V.int = ns.dropLast.map V.int ++ [V.int (ns.getD (ns.length - 1) 0)] := by
    conv => lhs; rw [e]
    rw [List.map_append]
    rfl
  rw [e3]
  exact atI_last _ _
section
variable {P : Program} {w : World} {K : PySem.W.Frag} {mg : Str → Option Value} {base : Heap}
theorem scCell : FnScope ["script", "k"] ["script", "k"] (defScope sCell) := ⟨rfl, rfl, rfl, by decide +kernel, rfl, by decide +kernel, by decide +kernel⟩
theorem ok_cell {f fS : Addr} {fd fdS : FuncData} (F : Fun K "_law_cell" "_law_cell" sCell f fd) (tl : mg "len" = none) (S : Callee P w K mg base CX0 1 "_law_stir" fS fdS ["cell", "k"] spStir) : FnOk P w K mg base CX0 2 f fd ["script", "k"] (spCell K) := by
  refine F.ok scCell (fun vs H Q E h => ?_) (fun cdv A outer s H vs Q E hr h => ?_)
  · obtain ⟨a, ns, k, rfl, _⟩ := h
    rfl
  · obtain ⟨a, ns, k, rfl, hS, k1, k2, q⟩ := h
    refine ⟨_, pss_cons (ps_if (pt_cmpR op_lt (pv 1) (pe_callB call_len_seq (by rfl) tl PySem.boot_len (pa_cons (pv 0) pa_nil)) (nomark _)) (pss_one (ps_ret (pe_ix ix_list (pv 0) (pv 1) (fun _ _ => rfl)))) pss_nil)
      (pss_cons (ps_if (pt_cmpR op_eq (pe_callB call_len_seq (by rfl) tl PySem.boot_len (pa_cons (pv 0) pa_nil)) pe_int (nomark _))
        (pss_one (ps_ret (pe_call S.ok hr rfl S.bound S.kp S.bd .nil pass0 (pa_cons (pe_op op_mul (pv 1) (pv 1)) (pa_cons (pv 1) pa_nil))))) pss_nil)
      (pss_one (ps_ret (pe_call S.ok hr rfl S.bound S.kp S.bd .nil pass0 (pa_cons (pe_ix ix_list (pv 0) (pe_op op_mod (pv 1) (pe_callB call_len_seq (by rfl) tl PySem.boot_len (pa_cons (pv 0) pa_nil))) (fun _ _ => rfl)) (pa_cons (pv 1) pa_nil)))))), ?_⟩
    refine ⟨_, rfl, _, rfl, _, _, rfl, .inl hS, _, _, rfl, rfl, _, rfl, ?_⟩
    rw [List.length_map]
    refine ite2 (fun c1 => ?_) (fun c1 => ?_)
    · have c1 := of_decide_eq_true c1
      exact ⟨_, rfl, _, rfl, _, _, _, _, rfl, rfl, hS, at_map k1 c1, q _⟩
    · have c1 : ¬ k < (ns.length : Int) := fun z => c1 (decide_eq_true z)
      refine ⟨_, rfl, _, _, rfl, .inl hS, rfl, _, rfl, ?_⟩
      rw [List.length_map]
      refine ite2 (fun c2 => ?_) (fun c2 => ?_)
      · exact ⟨_, rfl, _, rfl, _, _, rfl, rfl, .inl ⟨by omega, by omega⟩, _, rfl, _, _, rfl, by omega, by omega, fun n => q n⟩
      · have c2 : ns.length ≠ 0 := fun z => c2 (decide_eq_true (by rw [z]; rfl))
        have hp : (0 : Int) < (ns.length : Int) := by omega
        have m1 := Int.emod_nonneg k (show (ns.length : Int) ≠ 0 by omega)
        have m2 := Int.emod_lt_of_pos k hp
        exact ⟨_, rfl, _, rfl, _, rfl, _, _, rfl, .inl hS, _, _, rfl, rfl, (by rw [List.length_map]; exact hp), _, _, _, _, rfl, rfl, hS, (by rw [List.length_map]; exact at_map m1 m2), _, rfl, _, _, rfl, by omega, by omega, fun n => q n⟩
def spLines (K : PySem.W.Frag) : Sp := fun vs H Q _ => ∃ (a : Addr) (ns : List Int) (first most : Int) (N : Nat), vs = [.ref a, .int first, .int N, .int most] ∧ SqL K H a (ns.map V.int) ∧ 0 ≤ first ∧ first ≤ 900 ∧ N ≤ 50 ∧ 0 < most ∧
  ∀ (l : Addr) (xs : List Int) (H' : Hp), Same H H' → H l = none → H' l = some (.lst (xs.map V.int)) → Rising xs → xs.length = N + 1 → xs.getD 0 0 = 0 → Q (.ref l) H'
theorem same_upd {H H1 : Hp} {l : Addr} {o : HO} (S : Same H H1) (hn : H l = none) : Same H (upd H1 l o) := fun b u e => by
  rw [upd_ne (ne_of_none e hn)]
  exact S b u e
theorem scLines : FnScope ["script", "first", "many", "most", "found", "k"] ["script", "first", "many", "most"] (defScope sLines) := ⟨rfl, rfl, rfl, by decide +kernel, rfl, by decide +kernel, by decide +kernel⟩
theorem ok_lines {f fC : Addr} {fd fdC : FuncData} (F : Fun K "_law_lines" "_law_lines" sLines f fd) (tr : mg "range" = none) (C : Callee P w K mg base CX0 2 "_law_cell" fC fdC ["script", "k"] (spCell K)) :
    FnOk P w K mg base CX0 3 f fd ["script", "first", "many", "most"] (spLines K) := by
  refine F.ok scLines (fun vs H Q E h => ?_) (fun cdv A outer s H vs Q E hr h => ?_)
  · obtain ⟨a, ns, first, most, N, rfl, _⟩ := h
    rfl
  · obtain ⟨a, ns, first, most, N, rfl, hS, f1, f2, hN, hm, q⟩ := h
    refine ⟨_, pss_cons (ps_set (i := 4) scLines.nd rfl (Or.inl rfl) (pe_lst (pa_cons pe_int pa_nil)))
      (pss_cons (ps_for PassesOwn.never rfl (pi_range1 rfl tr (pa_cons (pv 2) pa_nil)) (pg_name (i := 5) scLines.nd rfl (Or.inl rfl))
        (pss_one (ps_expr (pe_bm PySem.F.plainAttrs_list PySem.F.slot_list_append PySem.F.type_list_append mt_append (pv 4)
          (pa_cons (pe_op op_add (pe_op op_add (pe_ix ix_list (pv 4) (pe_un un_neg pe_int) (fun _ _ => rfl)) pe_int) (pe_op op_mod (pe_op op_fdiv (pe_call C.ok hr rfl C.bound C.kp C.bd .nil pass0 (pa_cons (pv 0) (pa_cons (pe_op op_add (pv 1) (pv 5)) pa_nil))) pe_int) (pv 3))) pa_nil)))))
      (pss_one (ps_ret (pv 4)))), ?_⟩
    refine ⟨by show 1 ≤ sizeLine; decide, fun l hl => ?_⟩
    refine fresh (R := fun H1 => _) hl fun H1 S1 h1 => ?_
    refine ⟨_, rfl, _, rfl, by omega, by omega, for_range (lo := 0) (n := N) (fun i σ H2 => ∃ (xs : List Int) (kv : Option V), σ = [some (.ref a), some (.int first), some (.int N), some (.int most), some (.ref l), kv] ∧ Same H H2 ∧ H2 l = some (.lst (xs.map V.int)) ∧ Rising xs ∧ xs.length = i + 1 ∧ xs.getD 0 0 = 0)
      ⟨[0], none, rfl, S1, h1, fun i j hij hj => by simp at hj; omega, rfl, rfl⟩ ?_ ?_⟩
    · rintro i σ H2 hi ⟨xs, kv, rfl, S2, hl2, R, hx, x0⟩
      refine ⟨_, rfl, .inl ⟨rfl, _, SqL.of hl2⟩, _, rfl, _, rfl, _, _, _, _, rfl, rfl, SqL.of hl2, at_lastI (by omega), _, _, rfl, rfl, _, rfl, _, rfl, _, rfl, _, _, rfl, rfl, a, ns, _, rfl, S2.seq hS, by omega, by omega, fun n => ?_⟩
      refine ⟨_, _, rfl, rfl, ⟨by decide, by decide⟩, _, rfl, _, _, rfl, rfl, hm, _, _, rfl, rfl, l, _, _, rfl, rfl, hl2, ?_, ?_⟩
      · rw [List.length_map, hx]
        exact Nat.lt_of_le_of_lt (show i + 1 ≤ 1000 by omega) (by decide)
      · have m1 := Int.emod_nonneg (n / 7) (show most ≠ 0 by omega)
        refine ⟨xs ++ [xs.getD (xs.length - 1) 0 + 1 + n / 7 % most], _, rfl, same_upd S2 hl, ?_, rising_snoc R (by omega) (by omega), by rw [List.length_append, hx]; rfl, ?_⟩
        · rw [upd_same, List.map_append]
          rfl
        · rw [List.getD_eq_getElem?_getD, List.getElem?_append_left (by omega), ← List.getD_eq_getElem?_getD]
          exact x0
    · rintro σ H2 ⟨xs, kv, rfl, S2, hl2, R, hx, x0⟩
      exact ⟨_, rfl, q l xs H2 S2 hl hl2 R hx x0⟩
end
end KO
set_option Elab.async false
set_option linter.all false
set_option maxRecDepth 100000
set_option maxHeartbeats 4000000
namespace KO
open PySem L2 Til
theorem sz5 : 5 ≤ sizeLine := by decide
theorem same_new {H : Hp} {p : Addr} {o : HO} (hn : H p = none) : Same H (upd H p o) := fun b u e => by
  rw [upd_ne (ne_of_none e hn)]
  exact e
theorem five {H : Hp} {p1 p2 p3 p4 p5 z : Addr} {o1 o2 o3 o4 o5 : HO} (n1 : H p1 = none) (n2 : (upd H p1 o1) p2 = none) (n3 : (upd (upd H p1 o1) p2 o2) p3 = none) (n4 : (upd (upd (upd H p1 o1) p2 o2) p3 o3) p4 = none)
    (n5 : (upd (upd (upd (upd H p1 o1) p2 o2) p3 o3) p4 o4) p5 = none) (nz : (upd (upd (upd (upd (upd H p1 o1) p2 o2) p3 o3) p4 o4) p5 o5) z = none) (oz : HO) :
    Same H (upd (upd (upd (upd (upd (upd H p1 o1) p2 o2) p3 o3) p4 o4) p5 o5) z oz) ∧ H z = none ∧ (upd (upd (upd (upd (upd (upd H p1 o1) p2 o2) p3 o3) p4 o4) p5 o5) z oz) p1 = some o1 ∧ (upd (upd (upd (upd (upd (upd H p1 o1) p2 o2) p3 o3) p4 o4) p5 o5) z oz) p2 = some o2 ∧
    (upd (upd (upd (upd (upd (upd H p1 o1) p2 o2) p3 o3) p4 o4) p5 o5) z oz) p3 = some o3 ∧ (upd (upd (upd (upd (upd (upd H p1 o1) p2 o2) p3 o3) p4 o4) p5 o5) z oz) p4 = some o4 ∧ (upd (upd (upd (upd (upd (upd H p1 o1) p2 o2) p3 o3) p4 o4) p5 o5) z oz) p5 = some o5 := by
  have S1 := same_new (o := o1) n1
  have S2 := same_new (o := o2) n2
  have S3 := same_new (o := o3) n3
  have S4 := same_new (o := o4) n4
  have S5 := same_new (o := o5) n5
  have T5 := same_new (o := oz) nz
  have T4 := S5.trans T5
  have T3 := S4.trans T4
  have T2 := S3.trans T3
  have T1 := S2.trans T2
  exact ⟨S1.trans T1, ((((S1.trans S2).trans S3).trans S4).trans S5).free nz, T1 _ _ upd_same, T2 _ _ upd_same, T3 _ _ upd_same, T4 _ _ upd_same, T5 _ _ upd_same⟩
def spWheel : Sp := fun vs H Q _ => ∃ (v : V) (b : Bx) (rest : Int), vs = [v, .int rest] ∧ BoxAt H v b ∧ b.l + 2 < b.r ∧ b.t + 2 < b.b ∧
  ∀ (l : Addr) (us : List V) (nb : List Bx) (H' : Hp), Same H H' → H l = none → H' l = some (.lst us) → BoxesAt H' us nb → nb.length = 5 → (∀ x y, cnt nb x y = (inB b x y).toNat) → (∀ n m, Ok n m b → ∀ c ∈ nb, Ok n m c) → Q (.ref l) H'
local macro_rules | `(tactic| walk_at "ev") => `(tactic| ((repeat' (first | exact evl_var rfl | exact evl_c | refine evl_I0 ?_ ?_ | refine evl_I ?_ ?_ ?_ | refine evl_U ?_)) <;> (first | exact ⟨by decide, by decide⟩ | (show (0 : Int) < _; omega) | skip)))
section
variable {P : Program} {w : World} {K : PySem.W.Frag} {mg : Str → Option Value} {base : Heap}
theorem scWheel : FnScope ["box", "rest", "left", "top", "right", "below", "x", "y", "u", "v"] ["box", "rest"] (defScope sWheel) := ⟨rfl, rfl, rfl, by decide +kernel, rfl, by decide +kernel, by decide +kernel⟩
theorem ok_wheel {f : Addr} {fd : FuncData} (F : Fun K "_law_wheel" "_law_wheel" sWheel f fd) : FnOk P w K mg base CX0 1 f fd ["box", "rest"] spWheel := by
  refine F.ok scWheel (fun vs H Q E h => ?_) (fun cdv A outer s H vs Q E hr h => ?_)
  · obtain ⟨v, b, rest, rfl, _⟩ := h
    rfl
  · obtain ⟨v, b, rest, rfl, ⟨p, rfl, hp⟩, hw, hh, q⟩ := h
    refine ⟨_, (pss_cons (ps_asg (pv 0) (pg_tup rfl (pgs_cons (pg_name (i := 2) scWheel.nd rfl (Or.inl rfl)) (pgs_cons (pg_name (i := 3) scWheel.nd rfl (Or.inl rfl)) (pgs_cons (pg_name (i := 4) scWheel.nd rfl (Or.inl rfl)) (pgs_cons (pg_name (i := 5) scWheel.nd rfl (Or.inl rfl)) pgs_nil))))))
      (pss_cons (ps_set (i := 6) scWheel.nd rfl (Or.inl rfl) (pe_op op_add (pe_op op_add (pv 2) pe_int) (pe_op op_mod (pe_op op_fdiv (pv 1) pe_int) (pe_op op_sub (pe_op op_sub (pv 4) (pv 2)) pe_int))))
      (pss_cons (ps_set (i := 7) scWheel.nd rfl (Or.inl rfl) (pe_op op_add (pe_op op_add (pv 3) pe_int) (pe_op op_mod (pe_op op_fdiv (pv 1) pe_int) (pe_op op_sub (pe_op op_sub (pv 5) (pv 3)) pe_int))))
      (pss_cons (ps_set (i := 8) scWheel.nd rfl (Or.inl rfl) (pe_op op_add (pe_op op_add (pv 6) pe_int) (pe_op op_mod (pe_op op_fdiv (pv 1) pe_int) (pe_op op_sub (pe_op op_sub (pv 4) (pv 6)) pe_int))))
      (pss_cons (ps_set (i := 9) scWheel.nd rfl (Or.inl rfl) (pe_op op_add (pe_op op_add (pv 7) pe_int) (pe_op op_mod (pe_op op_fdiv (pv 1) pe_int) (pe_op op_sub (pe_op op_sub (pv 5) (pv 7)) pe_int))))
      (pss_cons (ps_if (pt_cmpR op_eq (pe_op op_mod (pv 1) pe_int) pe_int (nomark _))
      (pss_one (ps_ret (pe_lst (pa_cons (pe_tup (pa_cons (pv 2) (pa_cons (pv 3) (pa_cons (pv 8) (pa_cons (pv 7) pa_nil))))) (pa_cons (pe_tup (pa_cons (pv 8) (pa_cons (pv 3) (pa_cons (pv 4) (pa_cons (pv 9) pa_nil))))) (pa_cons (pe_tup (pa_cons (pv 6) (pa_cons (pv 9) (pa_cons (pv 4) (pa_cons (pv 5) pa_nil))))) (pa_cons (pe_tup (pa_cons (pv 2) (pa_cons (pv 7) (pa_cons (pv 6) (pa_cons (pv 5) pa_nil))))) (pa_cons (pe_tup (pa_cons (pv 6) (pa_cons (pv 7) (pa_cons (pv 8) (pa_cons (pv 9) pa_nil))))) pa_nil))))))))
      pss_nil)
      (pss_one (ps_ret (pe_lst (pa_cons (pe_tup (pa_cons (pv 6) (pa_cons (pv 3) (pa_cons (pv 4) (pa_cons (pv 7) pa_nil))))) (pa_cons (pe_tup (pa_cons (pv 8) (pa_cons (pv 7) (pa_cons (pv 4) (pa_cons (pv 5) pa_nil))))) (pa_cons (pe_tup (pa_cons (pv 2) (pa_cons (pv 9) (pa_cons (pv 8) (pa_cons (pv 5) pa_nil))))) (pa_cons (pe_tup (pa_cons (pv 2) (pa_cons (pv 3) (pa_cons (pv 6) (pa_cons (pv 9) pa_nil))))) (pa_cons (pe_tup (pa_cons (pv 6) (pa_cons (pv 7) (pa_cons (pv 8) (pa_cons (pv 9) pa_nil))))) pa_nil)))))))))))))), ?_⟩
    have x1 := Int.emod_nonneg (rest / 2) (show b.r - b.l - 2 ≠ 0 by omega)
    have x2 := Int.emod_lt_of_pos (rest / 2) (show (0 : Int) < b.r - b.l - 2 by omega)
    obtain ⟨x, hx⟩ : ∃ x, x = b.l + 1 + rest / 2 % (b.r - b.l - 2) := ⟨_, rfl⟩
    have y1 := Int.emod_nonneg (rest / 24) (show b.b - b.t - 2 ≠ 0 by omega)
    have y2 := Int.emod_lt_of_pos (rest / 24) (show (0 : Int) < b.b - b.t - 2 by omega)
    obtain ⟨y, hy⟩ : ∃ y, y = b.t + 1 + rest / 24 % (b.b - b.t - 2) := ⟨_, rfl⟩
    have u1 := Int.emod_nonneg (rest / 288) (show b.r - x - 1 ≠ 0 by omega)
    have u2 := Int.emod_lt_of_pos (rest / 288) (show (0 : Int) < b.r - x - 1 by omega)
    obtain ⟨u, hu⟩ : ∃ u, u = x + 1 + rest / 288 % (b.r - x - 1) := ⟨_, rfl⟩
    have v1 := Int.emod_nonneg (rest / 3456) (show b.b - y - 1 ≠ 0 by omega)
    have v2 := Int.emod_lt_of_pos (rest / 3456) (show (0 : Int) < b.b - y - 1 by omega)
    obtain ⟨v, hv⟩ : ∃ v, v = y + 1 + rest / 3456 % (b.b - y - 1) := ⟨_, rfl⟩
    refine seq_unp4 (evl_var rfl) (SqT.of hp) ?_
    refine seq_asg (v := .int x) (by rw [hx]; walk_at "ev") ?_
    refine seq_asg (v := .int y) (by rw [hy]; walk_at "ev") ?_
    refine seq_asg (v := .int u) (by rw [hu]; walk_at "ev") ?_
    refine seq_asg (v := .int v) (by rw [hv]; walk_at "ev") ?_
    refine seq_if (p := rest % 2 = 0) (tst_of (evl_eqI (by walk_at "ev") evl_c)) (fun _ => ?_) (fun _ => ?_)
    · refine run_retL ?_
      refine cons_tup4 (evl_var rfl) (evl_var rfl) (evl_var rfl) (evl_var rfl) fun p1 n1 => ?_
      refine cons_tup4 (evl_var rfl) (evl_var rfl) (evl_var rfl) (evl_var rfl) fun p2 n2 => ?_
      refine cons_tup4 (evl_var rfl) (evl_var rfl) (evl_var rfl) (evl_var rfl) fun p3 n3 => ?_
      refine cons_tup4 (evl_var rfl) (evl_var rfl) (evl_var rfl) (evl_var rfl) fun p4 n4 => ?_
      refine cons_tup4 (evl_var rfl) (evl_var rfl) (evl_var rfl) (evl_var rfl) fun p5 n5 => ?_
      refine ⟨sz5, fun z nz => ?_⟩
      obtain ⟨s0, s1, s2, s3, s4, s5, s6⟩ := five n1 n2 n3 n4 n5 nz (.lst [.ref p1, .ref p2, .ref p3, .ref p4, .ref p5])
      exact q z _ (wheelA b.l b.t b.r b.b x y u v) _ s0 s1 upd_same (.cons ⟨p1, rfl, s2⟩ (.cons ⟨p2, rfl, s3⟩ (.cons ⟨p3, rfl, s4⟩ (.cons ⟨p4, rfl, s5⟩ (.cons ⟨p5, rfl, s6⟩ .nil))))) rfl
        (fun a c => part_wheelA (by omega) (by omega) (by omega) (by omega) (by omega) (by omega) a c) fun n m o => ok_wheelA o (by omega) (by omega) (by omega) (by omega) (by omega) (by omega)
    · refine run_next ?_
      dsimp only
      refine run_retL ?_
      refine cons_tup4 (evl_var rfl) (evl_var rfl) (evl_var rfl) (evl_var rfl) fun p1 n1 => ?_
      refine cons_tup4 (evl_var rfl) (evl_var rfl) (evl_var rfl) (evl_var rfl) fun p2 n2 => ?_
      refine cons_tup4 (evl_var rfl) (evl_var rfl) (evl_var rfl) (evl_var rfl) fun p3 n3 => ?_
      refine cons_tup4 (evl_var rfl) (evl_var rfl) (evl_var rfl) (evl_var rfl) fun p4 n4 => ?_
      refine cons_tup4 (evl_var rfl) (evl_var rfl) (evl_var rfl) (evl_var rfl) fun p5 n5 => ?_
      refine ⟨sz5, fun z nz => ?_⟩
      obtain ⟨s0, s1, s2, s3, s4, s5, s6⟩ := five n1 n2 n3 n4 n5 nz (.lst [.ref p1, .ref p2, .ref p3, .ref p4, .ref p5])
      exact q z _ (wheelB b.l b.t b.r b.b x y u v) _ s0 s1 upd_same (.cons ⟨p1, rfl, s2⟩ (.cons ⟨p2, rfl, s3⟩ (.cons ⟨p3, rfl, s4⟩ (.cons ⟨p4, rfl, s5⟩ (.cons ⟨p5, rfl, s6⟩ .nil))))) rfl
        (fun a c => part_wheelB (by omega) (by omega) (by omega) (by omega) (by omega) (by omega) a c) fun n m o => ok_wheelB o (by omega) (by omega) (by omega) (by omega) (by omega) (by omega)
end
end KO
set_option Elab.async false
set_option linter.all false
set_option maxRecDepth 100000
set_option maxHeartbeats 4000000
namespace KO
open PySem L2 Til
section
variable {σ : St} {H : Hp} {D : Ends}
theorem seq_via {t u : TS} (G : St → Hp → Prop) (a : ∀ N : St → Hp → Prop, (∀ σ H, G σ H → N σ H) → t { D with nx := N } σ H) (b : ∀ σ H, G σ H → u D σ H) : tSeq t u D σ H := a (u D) b
theorem run_gname {i : Nat} {v : V} {Q : St → Hp → Prop} (h : Q (σ.set i (some v)) H) : gName i v σ H Q := h
theorem seq_lst {t : TA} {i : Nat} {u : TS} (h : t σ H fun xs H1 => xs.length ≤ sizeLine ∧ ∀ p, H1 p = none → u D (σ.set i (some (.ref p))) (upd H1 p (.lst xs))) : tSeq (tAsg (tLst t) (gName i)) u D σ H := h
theorem asg_pick4 {K : PySem.W.Frag} {t1 t2 t3 t4 tw : TE} {v1 v2 v3 v4 v : V} {i : Nat} {w : Int} (h1 : Evl t1 σ H v1) (h2 : Evl t2 σ H v2) (h3 : Evl t3 σ H v3) (h4 : Evl t4 σ H v4) (hw : ∀ H, Evl tw σ H (.int w)) (e : atI [v1, v2, v3, v4] w = some v)
    (q : ∀ H', Same H H' → D.nx (σ.set i (some v)) H') : tAsg (tOp (rIxL K) (tLst (tCons t1 (tCons t2 (tCons t3 (tCons t4 tNil))))) tw) (gName i) D σ H :=
  h1 _ (h2 _ (h3 _ (h4 _ ⟨by show 4 ≤ sizeLine; decide, fun p hp => hw _ _ ⟨p, _, w, v, rfl, rfl, SqL.of upd_same, e, q _ (same_new hp)⟩⟩)))
theorem seq_pick4 {K : PySem.W.Frag} {t1 t2 t3 t4 tw : TE} {v1 v2 v3 v4 v : V} {i : Nat} {w : Int} {u : TS} (h1 : Evl t1 σ H v1) (h2 : Evl t2 σ H v2) (h3 : Evl t3 σ H v3) (h4 : Evl t4 σ H v4) (hw : ∀ H, Evl tw σ H (.int w)) (e : atI [v1, v2, v3, v4] w = some v)
    (q : ∀ H', Same H H' → u D (σ.set i (some v)) H') : tSeq (tAsg (tOp (rIxL K) (tLst (tCons t1 (tCons t2 (tCons t3 (tCons t4 tNil))))) tw) (gName i)) u D σ H := asg_pick4 h1 h2 h3 h4 hw e q
end
theorem pick_l {S b : Bx} {w : Nat} (h : w < 4) : atI [V.int S.r, .int b.l, .int b.l, .int b.l] (w : Int) = some (.int (trim S b w).l) := by
  match w, h with
  | 0, _ => rfl
  | 1, _ => rfl
  | 2, _ => rfl
  | 3, _ => rfl
theorem pick_r {S b : Bx} {w : Nat} (h : w < 4) : atI [V.int b.r, .int S.l, .int b.r, .int b.r] (w : Int) = some (.int (trim S b w).r) := by
  match w, h with
  | 0, _ => rfl
  | 1, _ => rfl
  | 2, _ => rfl
  | 3, _ => rfl
theorem pick_t {S b : Bx} {w : Nat} (h : w < 4) : atI [V.int b.t, .int b.t, .int S.b, .int b.t] (w : Int) = some (.int (trim S b w).t) := by
  match w, h with
  | 0, _ => rfl
  | 1, _ => rfl
  | 2, _ => rfl
  | 3, _ => rfl
theorem pick_b {S b : Bx} {w : Nat} (h : w < 4) : atI [V.int b.b, .int b.b, .int b.b, .int S.t] (w : Int) = some (.int (trim S b w).b) := by
  match w, h with
  | 0, _ => rfl
  | 1, _ => rfl
  | 2, _ => rfl
  | 3, _ => rfl
theorem BoxesAt.updL {H : Hp} {l : Addr} {xs ys : List V} (hl : H l = some (.lst xs)) : ∀ {vs : List V} {bs : List Bx}, BoxesAt H vs bs → BoxesAt (upd H l (.lst ys)) vs bs
  | _, _, .nil => .nil
  | _, _, .cons ⟨p, e, z⟩ t => .cons ⟨p, e, by rw [upd_ne (ne_of z hl (by intro z; cases z))]; exact z⟩ (BoxesAt.updL hl t)
theorem min_if (i j : Int) : (if j < i then j else i) = min i j := by omega
theorem max_if (i j : Int) : (if j > i then j else i) = max i j := by omega
theorem box_four {H : Hp} {p : Addr} {b : Bx} (h : H p = some (.tup (bxV b))) (K : PySem.W.Frag) : SqT K H p [.int b.l, .int b.t, .int b.r, .int b.b] := SqT.of h
def spGrown : Sp := fun vs H Q _ => ∃ (a : Addr) (us : List V) (bs : List Bx) (at_ w n : Nat) (B : Bx), vs = [.ref a, .int at_, .int w, .int n] ∧ H a = some (.lst us) ∧ BoxesAt H us bs ∧ Tiles bs n n ∧ bs[at_]? = some B ∧ w < 4 ∧ bs.length ≤ 24 ∧
  ∀ (l : Addr) (us' : List V) (bs' : List Bx) (H' : Hp), Same H H' → H' l = some (.lst us') → BoxesAt H' us' bs' → Tiles bs' n n → bs'.length ≤ bs.length → Q (.ref l) H'
local macro_rules | `(tactic| walk_at "ev") => `(tactic| ((repeat' (first | exact evl_var rfl | exact evl_c | refine evl_I0 ?_ ?_ | refine evl_I ?_ ?_ ?_ | refine evl_U ?_ | refine evl_call2 ?_ ?_ | (refine evl_ixT ?_ ?_ (by assumption) ?e; case e => rfl))) <;> (first | exact ⟨by decide, by decide⟩ | (show (0 : Int) < _; omega) | skip)))
section
variable {P : Program} {w : World} {K : PySem.W.Frag} {mg : Str → Option Value} {base : Heap}
theorem scGrown : FnScope ["boxes", "at", "way", "many", "left", "top", "right", "below", "strip", "found", "k", "a", "b", "c", "d"] ["boxes", "at", "way", "many"] (defScope sGrown) := ⟨rfl, rfl, rfl, by decide +kernel, rfl, by decide +kernel, by decide +kernel⟩
theorem ok_grown {f : Addr} {fd : FuncData} (F : Fun K "_law_grown" "_law_grown" sGrown f fd) (tl : mg "len" = none) (tr : mg "range" = none) (tmin : mg "min" = none) (tmax : mg "max" = none) : FnOk P w K mg base CX0 1 f fd ["boxes", "at", "way", "many"] spGrown := by
  refine F.ok scGrown (fun vs H Q E h => ?_) (fun cdv A outer s H vs Q E hr h => ?_)
  · obtain ⟨a, us, bs, at_, w, n, B, rfl, _⟩ := h
    rfl
  · obtain ⟨a, us, bs, at_, w, n, B, rfl, hA, hBs, T, hat, hw, hlen, q⟩ := h
    refine ⟨_, (pss_cons (ps_asg (pe_ix ix_list (pv 0) (pv 1) (fun _ _ => rfl)) (pg_tup rfl (pgs_cons (pg_name (i := 4) scGrown.nd rfl (Or.inl rfl)) (pgs_cons (pg_name (i := 5) scGrown.nd rfl (Or.inl rfl)) (pgs_cons (pg_name (i := 6) scGrown.nd rfl (Or.inl rfl)) (pgs_cons (pg_name (i := 7) scGrown.nd rfl (Or.inl rfl)) pgs_nil))))))
      (pss_cons (ps_set (i := 8) scGrown.nd rfl (Or.inl rfl) (pe_lst (pa_cons (pe_tup (pa_cons (pv 6) (pa_cons (pv 5) (pa_cons (pe_op op_add (pv 6) pe_int) (pa_cons (pv 7) pa_nil))))) (pa_cons (pe_tup (pa_cons (pe_op op_sub (pv 4) pe_int) (pa_cons (pv 5) (pa_cons (pv 4) (pa_cons (pv 7) pa_nil))))) pa_nil))))
      (pss_cons (ps_set (i := 8) scGrown.nd rfl (Or.inl rfl) (pe_ix ix_list (pe_op op_cat (pv 8) (pe_lst (pa_cons (pe_tup (pa_cons (pv 4) (pa_cons (pv 7) (pa_cons (pv 6) (pa_cons (pe_op op_add (pv 7) pe_int) pa_nil))))) (pa_cons (pe_tup (pa_cons (pv 4) (pa_cons (pe_op op_sub (pv 5) pe_int) (pa_cons (pv 6) (pa_cons (pv 5) pa_nil))))) pa_nil)))) (pv 2) (fun _ _ => rfl)))
      (pss_cons (ps_if (pw_or (pt_cmpR op_lt (pe_callB (call_minT rfl) (by rfl) tmin PyProof.Rows.boot_min (pa_cons (pv 8) pa_nil)) pe_int (nomark _)) (pw_or1 (pt_cmpR op_gt (pe_callB (call_maxT rfl) (by rfl) tmax PyProof.Rows.boot_max (pa_cons (pv 8) pa_nil)) (pv 3) (nomark _)))).pt
      (pss_one (ps_ret (pv 0)))
      pss_nil)
      (pss_cons (ps_set (i := 9) scGrown.nd rfl (Or.inl rfl) (pe_lst pa_nil))
      (pss_cons (ps_for PassesOwn.never rfl (pi_range1 rfl tr (pa_cons (pe_callB call_len_seq (by rfl) tl PySem.boot_len (pa_cons (pv 0) pa_nil)) pa_nil)) (pg_name (i := 10) scGrown.nd rfl (Or.inl rfl))
      (pss_cons (ps_asg (pe_ix ix_list (pv 0) (pv 10) (fun _ _ => rfl)) (pg_tup rfl (pgs_cons (pg_name (i := 11) scGrown.nd rfl (Or.inl rfl)) (pgs_cons (pg_name (i := 12) scGrown.nd rfl (Or.inl rfl)) (pgs_cons (pg_name (i := 13) scGrown.nd rfl (Or.inl rfl)) (pgs_cons (pg_name (i := 14) scGrown.nd rfl (Or.inl rfl)) pgs_nil))))))
        (pss_cons (ps_if (pt_cmpR op_eq (pv 10) (pv 1) (nomark _))
        (pss_one (ps_asg (pe_tup (pa_cons (pe_callB (call_min2 rfl) (by rfl) tmin PyProof.Rows.boot_min (pa_cons (pv 11) (pa_cons (pe_ix ix_tup (pv 8) pe_int (fun _ _ => rfl)) pa_nil))) (pa_cons (pe_callB (call_min2 rfl) (by rfl) tmin PyProof.Rows.boot_min (pa_cons (pv 12) (pa_cons (pe_ix ix_tup (pv 8) pe_int (fun _ _ => rfl)) pa_nil))) (pa_cons (pe_callB (call_max2 rfl) (by rfl) tmax PyProof.Rows.boot_max (pa_cons (pv 13) (pa_cons (pe_ix ix_tup (pv 8) pe_int (fun _ _ => rfl)) pa_nil))) (pa_cons (pe_callB (call_max2 rfl) (by rfl) tmax PyProof.Rows.boot_max (pa_cons (pv 14) (pa_cons (pe_ix ix_tup (pv 8) pe_int (fun _ _ => rfl)) pa_nil))) pa_nil))))) (pg_tup rfl (pgs_cons (pg_name (i := 11) scGrown.nd rfl (Or.inl rfl)) (pgs_cons (pg_name (i := 12) scGrown.nd rfl (Or.inl rfl)) (pgs_cons (pg_name (i := 13) scGrown.nd rfl (Or.inl rfl)) (pgs_cons (pg_name (i := 14) scGrown.nd rfl (Or.inl rfl)) pgs_nil)))))))
        (pss_one (ps_if (pw_and (pt_cmpR op_lt (pv 11) (pe_ix ix_tup (pv 8) pe_int (fun _ _ => rfl)) (nomark _)) (pw_and (pt_cmpR op_lt (pe_ix ix_tup (pv 8) pe_int (fun _ _ => rfl)) (pv 13) (nomark _)) (pw_and (pt_cmpR op_lt (pv 12) (pe_ix ix_tup (pv 8) pe_int (fun _ _ => rfl)) (nomark _)) (pw_and1 (pt_cmpR op_lt (pe_ix ix_tup (pv 8) pe_int (fun _ _ => rfl)) (pv 14) (nomark _)))))).pt
          (pss_cons (ps_if (pw_or (pw_and (pt_cmpR op_lt (pv 2) pe_int (nomark _)) (pw_and1 (pw_or (pt_cmpR op_lt (pv 12) (pv 5) (nomark _)) (pw_or1 (pt_cmpR op_gt (pv 14) (pv 7) (nomark _)))).pt)).pt (pw_or1 (pw_and (pt_cmpR op_gt (pv 2) pe_int (nomark _)) (pw_and1 (pw_or (pt_cmpR op_lt (pv 11) (pv 4) (nomark _)) (pw_or1 (pt_cmpR op_gt (pv 13) (pv 6) (nomark _)))).pt)).pt)).pt
            (pss_one (ps_ret (pv 0)))
            pss_nil)
            (pss_cons (ps_set (i := 11) scGrown.nd rfl (Or.inl rfl) (pe_ix ix_list (pe_lst (pa_cons (pe_ix ix_tup (pv 8) pe_int (fun _ _ => rfl)) (pa_cons (pv 11) (pa_cons (pv 11) (pa_cons (pv 11) pa_nil))))) (pv 2) (fun _ _ => rfl)))
            (pss_cons (ps_set (i := 13) scGrown.nd rfl (Or.inl rfl) (pe_ix ix_list (pe_lst (pa_cons (pv 13) (pa_cons (pe_ix ix_tup (pv 8) pe_int (fun _ _ => rfl)) (pa_cons (pv 13) (pa_cons (pv 13) pa_nil))))) (pv 2) (fun _ _ => rfl)))
            (pss_cons (ps_set (i := 12) scGrown.nd rfl (Or.inl rfl) (pe_ix ix_list (pe_lst (pa_cons (pv 12) (pa_cons (pv 12) (pa_cons (pe_ix ix_tup (pv 8) pe_int (fun _ _ => rfl)) (pa_cons (pv 12) pa_nil))))) (pv 2) (fun _ _ => rfl)))
            (pss_one (ps_set (i := 14) scGrown.nd rfl (Or.inl rfl) (pe_ix ix_list (pe_lst (pa_cons (pv 14) (pa_cons (pv 14) (pa_cons (pv 14) (pa_cons (pe_ix ix_tup (pv 8) pe_int (fun _ _ => rfl)) pa_nil))))) (pv 2) (fun _ _ => rfl))))))))
          pss_nil)))
        (pss_one (ps_if (pw_and (pt_cmpR op_lt (pv 11) (pv 13) (nomark _)) (pw_and1 (pt_cmpR op_lt (pv 12) (pv 14) (nomark _)))).pt
        (pss_one (ps_expr (pe_bm PySem.F.plainAttrs_list PySem.F.slot_list_append PySem.F.type_list_append mt_append (pv 9) (pa_cons (pe_tup (pa_cons (pv 11) (pa_cons (pv 12) (pa_cons (pv 13) (pa_cons (pv 14) pa_nil))))) pa_nil))))
        pss_nil)))))
      (pss_one (ps_ret (pv 9))))))))), ?_⟩
    obtain ⟨v0, hv0, p0, rfl, hp0⟩ := hBs.get hat
    have la : at_ < bs.length := (List.getElem?_eq_some_iff.mp hat).1
    refine seq_unp4 (evl_ixL (evl_var rfl) (evl_var rfl) (SqL.of hA) (atI_nat hv0)) (box_four hp0 _) ?_
    refine seq_lst ?_
    refine cons_tup4 (evl_var rfl) (evl_var rfl) (evl_I0 (evl_var rfl) evl_c) (evl_var rfl) fun p1 n1 => ?_
    refine cons_tup4 (evl_I0 (evl_var rfl) evl_c) (evl_var rfl) (evl_var rfl) (evl_var rfl) fun p2 n2 => ?_
    refine ⟨by show 2 ≤ sizeLine; decide, fun l1 nl1 => ?_⟩
    -- the strip
    refine seq_via (fun σ H1 => ∃ pS, σ = [some (.ref a), some (.int at_), some (.int w), some (.int n), some (.int B.l), some (.int B.t), some (.int B.r), some (.int B.b), some (.ref pS), none, none, none, none, none, none] ∧ Same H H1 ∧ H1 pS = some (.tup (bxV (strip B w)))) (fun N hN => ?_) ?_
    · refine ⟨_, rfl, ?_⟩
      refine cons_tup4 (evl_var rfl) (evl_var rfl) (evl_var rfl) (evl_I0 (evl_var rfl) evl_c) fun p3 n3 => ?_
      refine cons_tup4 (evl_var rfl) (evl_I0 (evl_var rfl) evl_c) (evl_var rfl) (evl_var rfl) fun p4 n4 => ?_
      refine ⟨by show 2 ≤ sizeLine; decide, fun l2 nl2 => ?_⟩
      have S1 := same_new (o := .tup [.int B.r, .int B.t, .int (B.r + 1), .int B.b]) n1
      have S2 := same_new (o := .tup [.int (B.l - 1), .int B.t, .int B.l, .int B.b]) n2
      have S3 := same_new (o := .lst [.ref p1, .ref p2]) nl1
      have S4 := same_new (o := .tup [.int B.l, .int B.b, .int B.r, .int (B.b + 1)]) n3
      have S5 := same_new (o := .tup [.int B.l, .int (B.t - 1), .int B.r, .int B.t]) n4
      have S6 := same_new (o := .lst [.ref p3, .ref p4]) nl2
      refine ⟨l1, l2, [.ref p1, .ref p2], [.ref p3, .ref p4], rfl, rfl, ((S4.trans S5).trans S6) _ _ upd_same, upd_same, by show 4 ≤ sizeLine; decide, fun l3 nl3 => ?_⟩
      have S7 := same_new (o := .lst [.ref p1, .ref p2, .ref p3, .ref p4]) nl3
      have SA := ((((((S1.trans S2).trans S3).trans S4).trans S5).trans S6).trans S7)
      have e1 := ((((((S2).trans S3).trans S4).trans S5).trans S6).trans S7) p1 _ upd_same
      have e2 := (((((S3).trans S4).trans S5).trans S6).trans S7) p2 _ upd_same
      have e3 := (((S5).trans S6).trans S7) p3 _ upd_same
      have e4 := ((S6).trans S7) p4 _ upd_same
      refine ⟨_, rfl, ?_⟩
      match w, hw with
      | 0, _ => exact ⟨l3, [.ref p1, .ref p2, .ref p3, .ref p4], _, .ref p1, rfl, rfl, SqL.of upd_same, rfl, hN _ _ ⟨p1, rfl, SA, e1⟩⟩
      | 1, _ => exact ⟨l3, [.ref p1, .ref p2, .ref p3, .ref p4], _, .ref p2, rfl, rfl, SqL.of upd_same, rfl, hN _ _ ⟨p2, rfl, SA, e2⟩⟩
      | 2, _ => exact ⟨l3, [.ref p1, .ref p2, .ref p3, .ref p4], _, .ref p3, rfl, rfl, SqL.of upd_same, rfl, hN _ _ ⟨p3, rfl, SA, e3⟩⟩
      | 3, _ => exact ⟨l3, [.ref p1, .ref p2, .ref p3, .ref p4], _, .ref p4, rfl, rfl, SqL.of upd_same, rfl, hN _ _ ⟨p4, rfl, SA, e4⟩⟩
    clear n1 n2 nl1
    rintro σ H1 ⟨pS, rfl, S1, hS⟩
    obtain ⟨S, hSe⟩ : ∃ S, S = strip B w := ⟨_, rfl⟩
    rw [← hSe] at hS
    have tS := box_four hS K
    have early : ∀ {D : Ends} {σ : St} {H2 : Hp}, σ[0]? = some (some (.ref a)) → D.rt = Q → Same H H2 → tRet (tVar 0) D σ H2 := fun {D σ H2} e1 e2 S2 => ⟨_, e1, by rw [e2]; exact q a us bs H2 S2 (S2 _ _ hA) (hBs.same S2) T (Nat.le_refl _)⟩
    -- the least and the greatest
    refine seq_via (fun σ H2 => σ = [some (.ref a), some (.int at_), some (.int w), some (.int n), some (.int B.l), some (.int B.t), some (.int B.r), some (.int B.b), some (.ref pS), none, none, none, none, none, none] ∧ H2 = H1 ∧ (0 ≤ S.l ∧ 0 ≤ S.t) ∧ (S.r ≤ n ∧ S.b ≤ n)) (fun N hN => ?_) ?_
    · refine ⟨_, rfl, pS, [S.l, S.t, S.r, S.b], rfl, tS, Nat.succ_pos _, fun m _ hm => ⟨_, _, rfl, rfl, _, rfl, ?_⟩⟩
      refine ite2 (fun c1 => ?_) (fun c1 => ?_)
      · exact iteT (early rfl rfl S1)
      · refine ⟨_, rfl, pS, [S.l, S.t, S.r, S.b], rfl, tS, Nat.succ_pos _, fun M _ hM => ⟨_, rfl, _, _, rfl, rfl, _, rfl, ?_⟩⟩
        refine ite2 (fun c2 => ?_) (fun c2 => ?_)
        · exact early rfl rfl S1
        · have c1' : ¬ m < 0 := fun z => c1 (decide_eq_true z)
          have c2' : ¬ (n : Int) < M := fun z => c2 (decide_eq_true z)
          have a1 := hm S.l (by simp)
          have a2 := hm S.t (by simp)
          have a3 := hM S.r (by simp)
          have a4 := hM S.b (by simp)
          exact hN _ _ ⟨rfl, rfl, ⟨by omega, by omega⟩, by omega, by omega⟩
    rintro σ H2 ⟨rfl, e2, g0, g1⟩
    have e2 := e2.symm
    subst e2
    refine seq_lst ⟨by show 0 ≤ sizeLine; decide, fun lf nlf => ?_⟩
    have Sf := same_new (o := .lst []) nlf
    refine ⟨_, rfl, _, _, rfl, .inl (SqL.of ((S1.trans Sf) _ _ hA)), _, rfl, by omega, by rw [hBs.len]; omega, ?_⟩
    rw [hBs.len]
    refine for_range (lo := 0) (n := bs.length) (fun i σ H3 => ∃ (kv av bv cv dv : Option V) (vs : List V), σ = [some (.ref a), some (.int at_), some (.int w), some (.int n), some (.int B.l), some (.int B.t), some (.int B.r), some (.int B.b), some (.ref pS), some (.ref lf), kv, av, bv, cv, dv] ∧ Same H1 H3 ∧
      H3 lf = some (.lst vs) ∧ BoxesAt H3 vs (grTo bs at_ S w i) ∧ ∀ k b, k < i → bs[k]? = some b → k ≠ at_ → hit S b → ¬ bad B b w) ⟨none, none, none, none, none, [], rfl, Sf, upd_same, .nil, fun k b hk => by omega⟩ ?_ ?_
    · rintro i σ H3 hi ⟨kv, av, bv, cv, dv, vs, rfl, S3, hf, hB3, hbad⟩
      refine run_gname ?_
      have eb : bs[i]? = some bs[i] := List.getElem?_eq_getElem hi
      generalize bs[i] = b at eb
      obtain ⟨v, hv, p, rfl, hp⟩ := hBs.get eb
      have S13 := S1.trans S3
      refine seq_unp4 (evl_ixL (evl_var rfl) (evl_var (v := .int (0 + (i : Int))) rfl) (SqL.of (S13 _ _ hA)) (by rw [Int.zero_add]; exact atI_nat hv)) (box_four (S13 _ _ hp) _) ?_
      refine seq_via (fun σ H4 => ∃ c, c = newB at_ S w i b ∧ σ = [some (.ref a), some (.int at_), some (.int w), some (.int n), some (.int B.l), some (.int B.t), some (.int B.r), some (.int B.b), some (.ref pS), some (.ref lf), some (.int (0 + (i : Int))), some (.int c.l), some (.int c.t), some (.int c.r), some (.int c.b)] ∧ Same H3 H4 ∧
        (i ≠ at_ → hit S b → ¬ bad B b w)) (fun N hN => ?_) ?_
      · have tS3 := box_four (S3 _ _ hS) K
        refine tst_if (p := 0 + (i : Int) = at_) (tst_of (evl_eqI (evl_var rfl) (evl_var rfl))) (fun c1 => ?_) (fun c1 => ?_)
        · have ei : i = at_ := by omega
          refine run_tup4 (v1 := .int (join S b).l) (v2 := .int (join S b).t) (v3 := .int (join S b).r) (v4 := .int (join S b).b) (by rw [show (join S b).l = (if S.l < b.l then S.l else b.l) from (min_if _ _).symm]; exact evl_call2 (evl_var rfl) (evl_ixT (evl_var rfl) evl_c tS3 rfl)) (by rw [show (join S b).t = (if S.t < b.t then S.t else b.t) from (min_if _ _).symm]; exact evl_call2 (evl_var rfl) (evl_ixT (evl_var rfl) evl_c tS3 rfl)) (by rw [show (join S b).r = (if S.r > b.r then S.r else b.r) from (max_if _ _).symm]; exact evl_call2 (evl_var rfl) (evl_ixT (evl_var rfl) evl_c tS3 rfl)) (by rw [show (join S b).b = (if S.b > b.b then S.b else b.b) from (max_if _ _).symm]; exact evl_call2 (evl_var rfl) (evl_ixT (evl_var rfl) evl_c tS3 rfl)) fun p5 n5 => ?_
          refine ⟨p5, _, rfl, SqT.of upd_same, rfl, _, _, rfl, _, _, rfl, _, _, rfl, _, _, rfl, rfl, ?_⟩
          exact hN _ _ ⟨join S b, by unfold newB; rw [if_pos ei], rfl, same_new n5, fun z => absurd ei z⟩
        · have ei : i ≠ at_ := by omega
          refine tst_if (p := b.l < S.r ∧ S.l < b.r ∧ b.t < S.b ∧ S.t < b.b) (tst_and (tst_of (evl_I0 (evl_var rfl) (evl_ixT (evl_var rfl) evl_c tS3 rfl))) (tst_and (tst_of (evl_I0 (evl_ixT (evl_var rfl) evl_c tS3 rfl) (evl_var rfl))) (tst_and (tst_of (evl_I0 (evl_var rfl) (evl_ixT (evl_var rfl) evl_c tS3 rfl))) (tst_of (evl_I0 (evl_ixT (evl_var rfl) evl_c tS3 rfl) (evl_var rfl)))))) (fun c2 => ?_) (fun c2 => ?_)
          · refine seq_if (p := (((w : Int) < 2 ∧ (b.t < B.t ∨ B.b < b.b)) ∨ (1 < (w : Int) ∧ (b.l < B.l ∨ B.r < b.r)))) (tst_or (tst_and (tst_of (by walk_at "ev")) (tst_or (tst_of (by walk_at "ev")) (tst_of (by walk_at "ev")))) (tst_and (tst_of (by walk_at "ev")) (tst_or (tst_of (by walk_at "ev")) (tst_of (by walk_at "ev"))))) (fun c3 => ?_) (fun c3 => ?_)
            · exact early rfl rfl S13
            · have nb : ¬ bad B b w := by unfold bad; omega
              refine run_next ?_
              refine seq_pick4 (evl_ixT (evl_var rfl) evl_c tS3 rfl) (evl_var rfl) (evl_var rfl) (evl_var rfl) (fun _ => evl_var rfl) (pick_l hw) fun H5 S5 => ?_
              have tS5 := box_four ((S3.trans S5) _ _ hS) K
              refine seq_pick4 (evl_var rfl) (evl_ixT (evl_var rfl) evl_c tS5 rfl) (evl_var rfl) (evl_var rfl) (fun _ => evl_var rfl) (pick_r hw) fun H6 S6 => ?_
              have tS6 := box_four ((S3.trans (S5.trans S6)) _ _ hS) K
              refine seq_pick4 (evl_var rfl) (evl_var rfl) (evl_ixT (evl_var rfl) evl_c tS6 rfl) (evl_var rfl) (fun _ => evl_var rfl) (pick_t hw) fun H7 S7 => ?_
              have tS7 := box_four ((S3.trans (S5.trans (S6.trans S7))) _ _ hS) K
              refine asg_pick4 (evl_var rfl) (evl_var rfl) (evl_var rfl) (evl_ixT (evl_var rfl) evl_c tS7 rfl) (fun _ => evl_var rfl) (pick_b hw) fun H8 S8 => ?_
              exact hN _ _ ⟨trim S b w, by unfold newB; rw [if_neg ei, if_pos (show hit S b from c2)], rfl, S5.trans (S6.trans (S7.trans S8)), fun _ _ => nb⟩
          · refine run_next ?_
            exact hN _ _ ⟨b, by unfold newB; rw [if_neg ei, if_neg (show ¬ hit S b from c2)], rfl, fun _ _ e => e, fun _ z => absurd z c2⟩
      · rintro σ H4 ⟨c, hc, rfl, S4, nb⟩
        have nb' : ∀ k b', k < i + 1 → bs[k]? = some b' → k ≠ at_ → hit S b' → ¬ bad B b' w := fun k b' hk e1 e2 e3 => by
          by_cases ek : k = i
          · subst ek
            rw [eb] at e1
            cases e1
            exact nb e2 e3
          · exact hbad k b' (by omega) e1 e2 e3
        have hg := grTo_len bs at_ S w i
        have lv := hB3.len
        refine tst_if (p := c.l < c.r ∧ c.t < c.b) (tst_and (tst_of (by walk_at "ev")) (tst_of (by walk_at "ev"))) (fun c4 => ?_) (fun c4 => ?_)
        · refine ⟨_, rfl, .inl ⟨rfl, _, SqL.of (S4 _ _ hf)⟩, ?_⟩
          refine cons_tup4 (evl_var rfl) (evl_var rfl) (evl_var rfl) (evl_var rfl) fun p9 n9 => ?_
          have S9 := same_new (o := .tup [.int c.l, .int c.t, .int c.r, .int c.b]) n9
          have hf9 := S9 _ _ (S4 _ _ hf)
          refine ⟨lf, vs, _, rfl, rfl, hf9, Nat.lt_of_le_of_lt (show vs.length ≤ 1000 by omega) (by decide), ?_⟩
          have Sx : Same H1 (upd (upd H4 p9 (.tup [.int c.l, .int c.t, .int c.r, .int c.b])) lf (.lst (vs ++ [.ref p9]))) := same_upd (S3.trans (S4.trans S9)) nlf
          refine ⟨_, _, _, _, _, vs ++ [.ref p9], rfl, Sx, upd_same, ?_, nb'⟩
          rw [grTo_succ eb]
          have e0 : one at_ S w i b = [c] := by unfold one; rw [← hc]; exact if_pos c4
          rw [e0]
          exact BoxesAt.append (BoxesAt.updL hf9 (hB3.same (S4.trans S9))) (.cons ⟨p9, rfl, by rw [upd_ne (ne_of (S9 _ _ (S4 _ _ hf)) upd_same (by intro z; cases z)).symm]; exact upd_same⟩ .nil)
        · refine run_next ⟨_, _, _, _, _, vs, rfl, S3.trans S4, S4 _ _ hf, ?_, nb'⟩
          rw [grTo_succ eb]
          have e0 : one at_ S w i b = [] := by unfold one; rw [← hc]; exact if_neg c4
          rw [e0, List.append_nil]
          exact hB3.same S4
    · rintro σ H3 ⟨kv, av, bv, cv, dv, vs, rfl, S3, hf, hB3, hbad⟩
      refine ⟨_, rfl, q lf vs _ H3 (S1.trans S3) hf hB3 ?_ (grTo_len _ _ _ _ _)⟩
      rw [hSe]
      rw [hSe] at g0 g1 hbad
      exact tiles_grown T hat hw g0 g1 fun k b hk => hbad k b (List.getElem?_eq_some_iff.mp hk).1 hk
end
end KO
set_option Elab.async false
set_option linter.all false
set_option maxRecDepth 100000
set_option maxHeartbeats 4000000
namespace KO
open PySem L2 Til
theorem tiles_pos {bs : List Bx} {n m : Int} (T : Tiles bs n m) (hn : 0 < n) (hm : 0 < m) : 0 < bs.length := by
  cases bs with
  | nil =>
    have q := T.one 0 0 (by omega) hn (by omega) hm
    cases q
  | cons b bs => exact Nat.succ_pos _
theorem cutV_take (xs : List V) (k : Nat) (h : k ≤ xs.length) : cutV xs none (some (k : Int)) = xs.take k := by
  unfold cutV
  rw [HT.sIx_none, HT.sIx_nat, List.drop_zero, Nat.sub_zero, Nat.min_eq_left h]
theorem cutV_drop (xs : List V) (k : Nat) (h : k ≤ xs.length) : cutV xs (some (k : Int)) none = xs.drop k := by
  unfold cutV
  rw [HT.sIx_none, HT.sIx_nat, Nat.min_eq_left h]
  exact List.take_of_length_le (by rw [List.length_drop]; exact Nat.le_refl _)
theorem fresh3 {H : Hp} {p1 p2 p3 : Addr} {o1 o2 o3 : HO} {R : Hp → Prop} (n1 : H p1 = none) (n2 : (upd H p1 o1) p2 = none) (n3 : (upd (upd H p1 o1) p2 o2) p3 = none) (k : ∀ H', Same H H' → H' p3 = some o3 → R H') : R (upd (upd (upd H p1 o1) p2 o2) p3 o3) :=
  k _ ((same_new n1).trans ((same_new n2).trans (same_new n3))) upd_same
theorem part_boxes {H3 H4 : Hp} {us vs : List V} {bs nb : List Bx} (at_ : Nat) (h : BoxesAt H3 us bs) (S : Same H3 H4) (h' : BoxesAt H4 vs nb) : BoxesAt H4 (us.take at_ ++ us.drop (at_ + 1) ++ vs) (bs.take at_ ++ bs.drop (at_ + 1) ++ nb) :=
  BoxesAt.append (BoxesAt.append ((h.same S).take at_) ((h.same S).drop (at_ + 1))) h'
theorem part_len {α : Type} {us vs : List α} {at_ : Nat} (h : at_ < us.length) : (us.take at_ ++ us.drop (at_ + 1) ++ vs).length + 1 = us.length + vs.length := by
  rw [List.length_append, List.length_append, List.length_take, List.length_drop]
  omega
def spGrid (K : PySem.W.Frag) : Sp := fun vs H Q _ => ∃ (c : Addr) (ns : List Int) (n : Nat), vs = [.ref c, .int n] ∧ SqL K H c (ns.map V.int) ∧ 0 < n ∧
  ∀ (l : Addr) (us : List V) (bs : List Bx) (H' : Hp), Same H H' → H' l = some (.lst us) → BoxesAt H' us bs → Tiles bs n n → bs.length ≤ 24 → Q (.ref l) H'
theorem int_at {ns : List Int} {i : Nat} {y : V} (h : (ns.map V.int)[i]? = some y) : ∃ z, y = V.int z ∧ ns[i]? = some z := by
  rw [List.getElem?_map] at h
  cases e : ns[i]? with
  | none => rw [e] at h; cases h
  | some z => rw [e] at h; exact ⟨z, (Option.some.inj h).symm, rfl⟩
local macro_rules | `(tactic| walk_at "ev") => `(tactic| ((repeat' (first | exact evl_var rfl | exact evl_c | refine evl_I0 ?_ ?_ | refine evl_I ?_ ?_ ?_ | refine evl_U ?_ | refine evl_call2 ?_ ?_ | (refine evl_ixT ?_ ?_ (by assumption) ?e; case e => rfl))) <;> (first | exact ⟨by decide, by decide⟩ | (show (0 : Int) < _; omega) | skip)))
section
variable {P : Program} {w : World} {K : PySem.W.Frag} {mg : Str → Option Value} {base : Heap}
theorem scGrid : FnScope ["cells", "many", "boxes", "cell", "at", "left", "top", "right", "below", "rest", "others", "x", "y"] ["cells", "many"] (defScope sGrid) := ⟨rfl, rfl, rfl, by decide +kernel, rfl, by decide +kernel, by decide +kernel⟩
theorem ok_grid {f fW fG : Addr} {fd fdW fdG : FuncData} (F : Fun K "_law_grid" "_law_grid" sGrid f fd) (tl : mg "len" = none) (Wh : Callee P w K mg base CX0 1 "_law_wheel" fW fdW ["box", "rest"] spWheel)
    (Gr : Callee P w K mg base CX0 1 "_law_grown" fG fdG ["boxes", "at", "way", "many"] spGrown) : FnOk P w K mg base CX0 2 f fd ["cells", "many"] (spGrid K) := by
  refine F.ok scGrid (fun vs H Q E h => ?_) (fun cdv A outer s H vs Q E hr h => ?_)
  · obtain ⟨c, ns, n, rfl, _⟩ := h
    rfl
  · obtain ⟨c, ns, n, rfl, hS, hn, q⟩ := h
    refine ⟨_, (pss_cons (ps_set (i := 2) scGrid.nd rfl (Or.inl rfl) (pe_lst (pa_cons (pe_tup (pa_cons pe_int (pa_cons pe_int (pa_cons (pv 1) (pa_cons (pv 1) pa_nil))))) pa_nil)))
      (pss_cons (ps_for PassesOwn.never rfl (pi_list (pv 0)) (pg_name (i := 3) scGrid.nd rfl (Or.inl rfl))
      (pss_cons (ps_set (i := 4) scGrid.nd rfl (Or.inl rfl) (pe_op op_mod (pe_op op_fdiv (pv 3) pe_int) (pe_callB call_len_seq (by rfl) tl PySem.boot_len (pa_cons (pv 2) pa_nil))))
        (pss_cons (ps_asg (pe_ix ix_list (pv 2) (pv 4) (fun _ _ => rfl)) (pg_tup rfl (pgs_cons (pg_name (i := 5) scGrid.nd rfl (Or.inl rfl)) (pgs_cons (pg_name (i := 6) scGrid.nd rfl (Or.inl rfl)) (pgs_cons (pg_name (i := 7) scGrid.nd rfl (Or.inl rfl)) (pgs_cons (pg_name (i := 8) scGrid.nd rfl (Or.inl rfl)) pgs_nil))))))
        (pss_cons (ps_set (i := 9) scGrid.nd rfl (Or.inl rfl) (pe_op op_fdiv (pv 3) pe_int))
        (pss_cons (ps_set (i := 10) scGrid.nd rfl (Or.inl rfl) (pe_op op_cat (pe_slice sl_list (pv 2) po_none (po_some (pv 4))) (pe_slice sl_list (pv 2) (po_some (pe_op op_add (pv 4) pe_int)) po_none)))
        (pss_one (ps_if (pw_and (pt_cmpR op_eq (pe_op op_mod (pv 3) pe_int) pe_int (nomark _)) (pw_and (pt_cmpR op_gt (pe_op op_sub (pv 7) (pv 5)) pe_int (nomark _)) (pw_and1 (pt_cmpR op_lt (pe_callB call_len_seq (by rfl) tl PySem.boot_len (pa_cons (pv 2) pa_nil)) pe_int (nomark _))))).pt
        (pss_cons (ps_set (i := 11) scGrid.nd rfl (Or.inl rfl) (pe_op op_add (pe_op op_add (pv 5) pe_int) (pe_op op_mod (pv 9) (pe_op op_sub (pe_op op_sub (pv 7) (pv 5)) pe_int))))
          (pss_one (ps_set (i := 2) scGrid.nd rfl (Or.inl rfl) (pe_op op_cat (pv 10) (pe_lst (pa_cons (pe_tup (pa_cons (pv 5) (pa_cons (pv 6) (pa_cons (pv 11) (pa_cons (pv 8) pa_nil))))) (pa_cons (pe_tup (pa_cons (pv 11) (pa_cons (pv 6) (pa_cons (pv 7) (pa_cons (pv 8) pa_nil))))) pa_nil)))))))
        (pss_one (ps_if (pw_and (pt_cmpR op_eq (pe_op op_mod (pv 3) pe_int) pe_int (nomark _)) (pw_and (pt_cmpR op_gt (pe_op op_sub (pv 8) (pv 6)) pe_int (nomark _)) (pw_and1 (pt_cmpR op_lt (pe_callB call_len_seq (by rfl) tl PySem.boot_len (pa_cons (pv 2) pa_nil)) pe_int (nomark _))))).pt
          (pss_cons (ps_set (i := 12) scGrid.nd rfl (Or.inl rfl) (pe_op op_add (pe_op op_add (pv 6) pe_int) (pe_op op_mod (pv 9) (pe_op op_sub (pe_op op_sub (pv 8) (pv 6)) pe_int))))
            (pss_one (ps_set (i := 2) scGrid.nd rfl (Or.inl rfl) (pe_op op_cat (pv 10) (pe_lst (pa_cons (pe_tup (pa_cons (pv 5) (pa_cons (pv 6) (pa_cons (pv 7) (pa_cons (pv 12) pa_nil))))) (pa_cons (pe_tup (pa_cons (pv 5) (pa_cons (pv 12) (pa_cons (pv 7) (pa_cons (pv 8) pa_nil))))) pa_nil)))))))
          (pss_one (ps_if (pw_and (pt_cmpR op_eq (pe_op op_mod (pv 3) pe_int) pe_int (nomark _)) (pw_and (pt_cmpR op_gt (pe_op op_sub (pv 7) (pv 5)) pe_int (nomark _)) (pw_and (pt_cmpR op_gt (pe_op op_sub (pv 8) (pv 6)) pe_int (nomark _)) (pw_and1 (pt_cmpR op_lt (pe_callB call_len_seq (by rfl) tl PySem.boot_len (pa_cons (pv 2) pa_nil)) pe_int (nomark _)))))).pt
            (pss_one (ps_set (i := 2) scGrid.nd rfl (Or.inl rfl) (pe_op op_cat (pv 10) (pe_call Wh.ok hr rfl Wh.bound Wh.kp Wh.bd .nil pass0 (pa_cons (pe_ix ix_list (pv 2) (pv 4) (fun _ _ => rfl)) (pa_cons (pv 9) pa_nil))))))
            (pss_one (ps_set (i := 2) scGrid.nd rfl (Or.inl rfl) (pe_call Gr.ok hr rfl Gr.bound Gr.kp Gr.bd .nil pass0 (pa_cons (pv 2) (pa_cons (pv 4) (pa_cons (pe_op op_mod (pv 9) pe_int) (pa_cons (pv 1) pa_nil))))))))))))))))))
      (pss_one (ps_ret (pv 2))))), ?_⟩
    refine seq_lst ?_
    refine cons_tup4 evl_c evl_c (evl_var rfl) (evl_var rfl) fun p1 n1 => ?_
    refine ⟨by show 1 ≤ sizeLine; decide, fun l0 nl0 => ?_⟩
    have S1 := same_new (o := .tup [.int 0, .int 0, .int n, .int n]) n1
    have S2 := same_new (o := .lst [.ref p1]) nl0
    refine ⟨_, rfl, c, rfl, ⟨_, (S1.trans S2).seq hS⟩, ?_⟩
    refine for_list (K := K) (a := c) (xs := ns.map V.int) (fun i σ H2 => ∃ (l : Addr) (us : List V) (bs : List Bx) (o3 o4 o5 o6 o7 o8 o9 o10 o11 o12 : Option V), σ = [some (.ref c), some (.int n), some (.ref l), o3, o4, o5, o6, o7, o8, o9, o10, o11, o12] ∧ Same H H2 ∧ H2 l = some (.lst us) ∧ BoxesAt H2 us bs ∧ Tiles bs n n ∧ bs.length ≤ 24)
      ⟨l0, [.ref p1], [⟨0, 0, n, n⟩], none, none, none, none, none, none, none, none, none, none, rfl, S1.trans S2, upd_same, .cons ⟨p1, rfl, S2 _ _ upd_same⟩ .nil, tiles_start (by omega) (by omega), by show 1 ≤ 24; decide⟩
      (fun i σ H2 _ ⟨_, _, _, _, _, _, _, _, _, _, _, _, _, _, s2, _⟩ => s2.seq hS) ?_ ?_
    · rintro i y σ H2 hi ⟨l, us, bs, o3, o4, o5, o6, o7, o8, o9, o10, o11, o12, rfl, S3, hl, hB, T, hlen⟩
      obtain ⟨z, rfl, _⟩ := int_at hi
      refine run_gname ?_
      have lu := hB.len
      have hpos := tiles_pos T (show (0 : Int) < n by omega) (by omega)
      obtain ⟨at_, hat⟩ : ∃ at_ : Nat, (at_ : Int) = z / 5 % us.length := ⟨(z / 5 % us.length).toNat, Int.toNat_of_nonneg (Int.emod_nonneg _ (by omega))⟩
      have hlt : at_ < bs.length := by
        have := Int.emod_lt_of_pos (z / 5) (show (0 : Int) < us.length by omega)
        omega
      have eb : bs[at_]? = some bs[at_] := List.getElem?_eq_getElem hlt
      generalize bs[at_] = B at eb
      obtain ⟨v, hv, p, rfl, hp⟩ := hB.get eb
      have oB := T.wf B (List.mem_of_getElem? eb)
      refine seq_asg (v := .int at_) (by rw [hat]; exact evl_I (evl_I (evl_var rfl) evl_c ⟨by decide, by decide⟩) (evl_lenL (evl_var rfl) (SqL.of hl)) (show (0 : Int) < us.length by omega)) ?_
      refine seq_unp4 (evl_ixL (evl_var rfl) (evl_var rfl) (SqL.of hl) (atI_nat hv)) (box_four hp _) ?_
      refine seq_asg (v := .int (z / 120)) (evl_I (evl_var rfl) evl_c ⟨by decide, by decide⟩) ?_
      refine ⟨_, rfl, _, rfl, _, rfl, l, us, rfl, SqL.of hl, fun p1 n1 => ?_⟩
      refine ⟨_, rfl, _, rfl, _, _, rfl, rfl, _, rfl, l, us, rfl, SqL.of (same_new n1 _ _ hl), fun p2 n2 => ?_⟩
      refine ⟨p1, p2, _, _, rfl, rfl, same_new n2 _ _ upd_same, upd_same, ?_, fun p3 n3 => ?_⟩
      · have a1 := cutV_length us none (some (at_ : Int))
        have a2 := cutV_length us (some ((at_ : Int) + 1)) none
        exact Nat.le_trans (show _ ≤ 1000 by omega) (by decide)
      refine fresh3 (R := fun H' => _) n1 n2 n3 fun H3 S4 h3 => ?_
      have e1 : cutV us none (some (at_ : Int)) = us.take at_ := cutV_take us at_ (by omega)
      have e2 : cutV us (some ((at_ : Int) + 1)) none = us.drop (at_ + 1) := cutV_drop us (at_ + 1) (by omega)
      rw [e1, e2] at h3
      clear n1 n2 n3
      have hl3 := S4 _ _ hl
      have hp3 := S4 _ _ hp
      have S34 := S3.trans S4
      have hout : (us.take at_ ++ us.drop (at_ + 1)).length ≤ 24 := by rw [List.length_append, List.length_take, List.length_drop]; omega
      dsimp only
      refine tst_if (p := z % 5 = 0 ∧ 1 < B.r - B.l ∧ (us.length : Int) < 24) (tst_and (tst_of (evl_eqI (by walk_at "ev") evl_c)) (tst_and (tst_of (by walk_at "ev")) (tst_of (by exact evl_I0 (evl_lenL (evl_var rfl) (SqL.of hl3)) evl_c)))) (fun c1 => ?_) (fun c1 => ?_)
      · have x1 := Int.emod_nonneg (z / 120) (show B.r - B.l - 1 ≠ 0 by omega)
        have x2 := Int.emod_lt_of_pos (z / 120) (show (0 : Int) < B.r - B.l - 1 by omega)
        obtain ⟨x, hx⟩ : ∃ x, x = B.l + 1 + z / 120 % (B.r - B.l - 1) := ⟨_, rfl⟩
        refine seq_asg (v := .int x) (by rw [hx]; walk_at "ev") ?_
        refine ⟨_, rfl, ?_⟩
        refine cons_tup4 (evl_var rfl) (evl_var rfl) (evl_var rfl) (evl_var rfl) fun q1 m1 => ?_
        refine cons_tup4 (evl_var rfl) (evl_var rfl) (evl_var rfl) (evl_var rfl) fun q2 m2 => ?_
        refine ⟨by show 2 ≤ sizeLine; decide, fun q3 m3 => ?_⟩
        have U1 := same_new (o := .tup [.int B.l, .int B.t, .int x, .int B.b]) m1
        have U2 := same_new (o := .tup [.int x, .int B.t, .int B.r, .int B.b]) m2
        have U3 := same_new (o := .lst [.ref q1, .ref q2]) m3
        refine ⟨p3, q3, _, _, rfl, rfl, (U1.trans (U2.trans U3)) _ _ h3, upd_same, Nat.le_trans (show _ ≤ 26 by show _ + 2 ≤ 26; omega) (by decide), fun l' n' => ?_⟩
        have U4 := same_new (o := .lst (us.take at_ ++ us.drop (at_ + 1) ++ [.ref q1, .ref q2])) n'
        exact ⟨l', _, bs.take at_ ++ bs.drop (at_ + 1) ++ [⟨B.l, B.t, x, B.b⟩, ⟨x, B.t, B.r, B.b⟩], _, _, _, _, _, _, _, _, _, _, rfl, S34.trans (U1.trans (U2.trans (U3.trans U4))), upd_same,
          part_boxes at_ hB (S4.trans (U1.trans (U2.trans (U3.trans U4)))) (.cons ⟨q1, rfl, (U2.trans (U3.trans U4)) _ _ upd_same⟩ (.cons ⟨q2, rfl, (U3.trans U4) _ _ upd_same⟩ .nil)),
          tiles_part T eb (ok_part_x oB (by omega) (by omega)) (part_x (by omega) (by omega)), by have := part_len (vs := [(⟨B.l, B.t, x, B.b⟩ : Bx), ⟨x, B.t, B.r, B.b⟩]) hlt; simp only [List.length_cons, List.length_nil] at this; omega⟩
      refine tst_if (p := z % 5 = 1 ∧ 1 < B.b - B.t ∧ (us.length : Int) < 24) (tst_and (tst_of (evl_eqI (by walk_at "ev") evl_c)) (tst_and (tst_of (by walk_at "ev")) (tst_of (by exact evl_I0 (evl_lenL (evl_var rfl) (SqL.of hl3)) evl_c)))) (fun c2 => ?_) (fun c2 => ?_)
      · have x1 := Int.emod_nonneg (z / 120) (show B.b - B.t - 1 ≠ 0 by omega)
        have x2 := Int.emod_lt_of_pos (z / 120) (show (0 : Int) < B.b - B.t - 1 by omega)
        obtain ⟨y, hy⟩ : ∃ y, y = B.t + 1 + z / 120 % (B.b - B.t - 1) := ⟨_, rfl⟩
        refine seq_asg (v := .int y) (by rw [hy]; walk_at "ev") ?_
        refine ⟨_, rfl, ?_⟩
        refine cons_tup4 (evl_var rfl) (evl_var rfl) (evl_var rfl) (evl_var rfl) fun q1 m1 => ?_
        refine cons_tup4 (evl_var rfl) (evl_var rfl) (evl_var rfl) (evl_var rfl) fun q2 m2 => ?_
        refine ⟨by show 2 ≤ sizeLine; decide, fun q3 m3 => ?_⟩
        have U1 := same_new (o := .tup [.int B.l, .int B.t, .int B.r, .int y]) m1
        have U2 := same_new (o := .tup [.int B.l, .int y, .int B.r, .int B.b]) m2
        have U3 := same_new (o := .lst [.ref q1, .ref q2]) m3
        refine ⟨p3, q3, _, _, rfl, rfl, (U1.trans (U2.trans U3)) _ _ h3, upd_same, Nat.le_trans (show _ ≤ 26 by show _ + 2 ≤ 26; omega) (by decide), fun l' n' => ?_⟩
        have U4 := same_new (o := .lst (us.take at_ ++ us.drop (at_ + 1) ++ [.ref q1, .ref q2])) n'
        exact ⟨l', _, bs.take at_ ++ bs.drop (at_ + 1) ++ [⟨B.l, B.t, B.r, y⟩, ⟨B.l, y, B.r, B.b⟩], _, _, _, _, _, _, _, _, _, _, rfl, S34.trans (U1.trans (U2.trans (U3.trans U4))), upd_same,
          part_boxes at_ hB (S4.trans (U1.trans (U2.trans (U3.trans U4)))) (.cons ⟨q1, rfl, (U2.trans (U3.trans U4)) _ _ upd_same⟩ (.cons ⟨q2, rfl, (U3.trans U4) _ _ upd_same⟩ .nil)),
          tiles_part T eb (ok_part_y oB (by omega) (by omega)) (part_y (by omega) (by omega)), by have := part_len (vs := [(⟨B.l, B.t, B.r, y⟩ : Bx), ⟨B.l, y, B.r, B.b⟩]) hlt; simp only [List.length_cons, List.length_nil] at this; omega⟩
      refine tst_if (p := z % 5 = 4 ∧ 2 < B.r - B.l ∧ 2 < B.b - B.t ∧ (us.length : Int) < 21) (tst_and (tst_of (evl_eqI (by walk_at "ev") evl_c)) (tst_and (tst_of (by walk_at "ev")) (tst_and (tst_of (by walk_at "ev")) (tst_of (by exact evl_I0 (evl_lenL (evl_var rfl) (SqL.of hl3)) evl_c))))) (fun c3 => ?_) (fun c3 => ?_)
      · refine ⟨_, rfl, _, rfl, _, rfl, _, _, _, _, rfl, rfl, SqL.of hl3, atI_nat hv, _, rfl, .ref p, B, z / 120, rfl, ⟨p, rfl, hp3⟩, by omega, by omega, fun lw uw nb H4 S5 nlw hlw hBw lnb cw okw => ?_⟩
        have luw := hBw.len
        refine ⟨p3, lw, _, _, rfl, rfl, S5 _ _ h3, hlw, Nat.le_trans (show _ ≤ 40 by omega) (by decide), fun l' n' => ?_⟩
        have U4 := same_new (o := .lst (us.take at_ ++ us.drop (at_ + 1) ++ uw)) n'
        exact ⟨l', _, bs.take at_ ++ bs.drop (at_ + 1) ++ nb, _, _, _, _, _, _, _, _, _, _, rfl, S34.trans (S5.trans U4), upd_same, part_boxes at_ hB (S4.trans (S5.trans U4)) (hBw.same U4), tiles_part T eb (okw n n oB) cw, by have := part_len (vs := nb) hlt; omega⟩
      · obtain ⟨w', hw'⟩ : ∃ w' : Nat, (w' : Int) = z / 120 % 4 := ⟨(z / 120 % 4).toNat, Int.toNat_of_nonneg (Int.emod_nonneg _ (by omega))⟩
        refine ⟨_, rfl, _, rfl, _, rfl, _, _, rfl, rfl, (by show (0 : Int) < 4; decide), _, rfl, l, us, bs, at_, w', n, B, (by rw [hw']; rfl), hl3, hB.same S4, T, eb, by omega, hlen, fun l' us' bs' H4 S5 h5 hB5 T5 hlen5 => ?_⟩
        exact ⟨l', us', bs', _, _, _, _, _, _, _, _, _, _, rfl, S34.trans S5, h5, hB5, T5, by omega⟩
    · rintro σ H2 ⟨l, us, bs, o3, o4, o5, o6, o7, o8, o9, o10, o11, o12, rfl, S3, hl, hB, T, hlen⟩
      exact ⟨_, rfl, q l us bs H2 S3 hl hB T hlen⟩
end
end KO
set_option Elab.async false
set_option linter.all false
set_option maxRecDepth 100000
namespace L2
open PySem PySem.Spec PyProof.Rows PySem.W
inductive TyX (K : Frag) (H : Hp) : V → Value → Prop where
  | of {x : V} {t : Value} (h : TyOf K H x t) : TyX K H x t
  | exc {ea C : Addr} (e : H ea = some (.ext (ExcIs ea C))) (c : ExcCls K C) : TyX K H (.ref ea) (.ref C)
def clsV : V → Value
  | .ref a => .ref a
  | .ty n => .type n
  | _ => .none
def isCls : V → Bool
  | .ref _ => true
  | .ty _ => true
  | _ => false
theorem clsV_rel : ∀ {c : V} {u : Value}, isCls c = true → RelV c u → u = clsV c
  | .ref _, _, _, r => r
  | .ty _, _, _, r => r
section
variable {X : Cx}
theorem tyx_kit {pins : List (Addr × Obj)} {σ : St} {H : Hp} {s : Shared} {x : V} {u t : Value} (I : Inv X pins σ H s) (rx : RelV x u) (ty : TyX X.K H x t) : ∃ J, KitX X.K u t J ∧ J s.heap ∧ u ≠ .builtin "__main__.__loader__#opaque" := by
  cases ty with
  | exc e c =>
    cases (show u = Value.ref _ from rx)
    obtain ⟨J, _⟩ := I.hok _ _ e
    exact ⟨_, kitx_exc c, J, fun z => nomatch z⟩
  | of ty =>
    cases ty with
    | non => cases (show u = Value.none from rx); exact ⟨_, kitx_none, True.intro, fun z => nomatch z⟩
    | bl y => cases (show u = Value.bool y from rx); exact ⟨_, kitx_bool, True.intro, fun z => nomatch z⟩
    | int i => obtain ⟨t, q⟩ := (show ∃ t, u = Value.int i t from rx); cases q; exact ⟨_, kitx_int, True.intro, fun z => nomatch z⟩
    | str y => obtain ⟨t, q⟩ := (show ∃ t, u = Value.str y t from rx); cases q; exact ⟨_, kitx_str, True.intro, fun z => nomatch z⟩
    | flt y => obtain ⟨t, q⟩ := (show ∃ t, u = Value.float y t from rx); cases q; exact ⟨_, kitx_float, True.intro, fun z => nomatch z⟩
    | @lst a xs ea =>
      cases (show u = Value.ref a from rx)
      obtain ⟨_, _, n, _, h1⟩ := (show ObjOk X.prog X.w H s.heap a (.lst xs) from I.hok a _ ea)
      exact ⟨_, kitx_list, ⟨_, h1, rfl⟩, fun z => nomatch z⟩
    | @frz a ob xs ea =>
      cases (show u = Value.ref a from rx)
      obtain ⟨_, _, _, n, _, h1⟩ := (show ObjOk X.prog X.w H s.heap a (.frz ob (.lst xs)) from I.hok a _ ea)
      exact ⟨_, kitx_list, ⟨_, h1, rfl⟩, fun z => nomatch z⟩
    | @tup a xs ea =>
      cases (show u = Value.ref a from rx)
      obtain ⟨_, _, _, p⟩ := (show ObjOk X.prog X.w H s.heap a (.tup xs) from I.hok a _ ea)
      obtain ⟨o, h1, h2, _⟩ := p
      exact ⟨_, kitx_tuple, ⟨o, h1, h2⟩, fun z => nomatch z⟩
    | @dK a kvs ea =>
      cases (show u = Value.ref a from rx)
      obtain ⟨_, _, vs, _, p⟩ := (show ObjOk X.prog X.w H s.heap a (.dK kvs) from I.hok a _ ea)
      obtain ⟨o, es, ep, h1, h2, _⟩ := p
      exact ⟨_, kitx_dict, ⟨o, h1, h2.1⟩, fun z => nomatch z⟩
    | @dT a kvs ea =>
      cases (show u = Value.ref a from rx)
      obtain ⟨_, _, xs, _, o, es, ep, h1, h2, _⟩ := (show ObjOk X.prog X.w H s.heap a (.dT kvs) from I.hok a _ ea)
      exact ⟨_, kitx_dict, ⟨o, h1, h2.1⟩, fun z => nomatch z⟩
    | @ins a C dx fs ea cl ha hn htk hm =>
      cases (show u = Value.ref a from rx)
      obtain ⟨mA, O, _⟩ := ins_get I.hok ea
      obtain ⟨od, J, _⟩ := O.look
      exact ⟨_, kitx_own (cl.get _) cl.hd ha hn htk hm, J, fun z => nomatch z⟩
theorem call_isi : CallR X (.builtin "isinstance") (fun xs H Q => ∃ x c t b, xs = [x, c] ∧ isCls c = true ∧ TyX X.K H x t ∧ kitOne X.K t (clsV c) = some b ∧ Q (.bl b) H) := by
  intro pins s σ H xs us Q I r h
  obtain ⟨x, c, t, b, rfl, hc, ty, e, q⟩ := h
  obtain ⟨u, v, rfl, r1, r2⟩ := vals2 r
  rw [clsV_rel hc r2]
  obtain ⟨J, Z, hJ, hx⟩ := tyx_kit I r1 ty
  exact kia_one Z I.kIn hJ e hx fun tk => ⟨.bl b, H, I.tok tk, rfl, q⟩
end
end L2
set_option Elab.async false
set_option linter.all false
set_option maxRecDepth 100000
namespace L2
open PySem PySem.Spec PyProof.Rows PySem.W
theorem code_base {K : Frag} {h base : Heap} {c P : Addr} {o : Obj} (C : CodeHd h c P) (X : K.In h) (Y : K.In base) (l : K.lookup c = some o) : CodeHd base c P := by
  obtain ⟨o', vs, file, tf, flags, tg, inF, text, tt, e, r⟩ := C
  have e' := X _ _ l
  rw [e] at e'
  obtain rfl := Option.some.inj e'
  exact ⟨_, vs, file, tf, flags, tg, inF, text, tt, Y _ _ l, r⟩
theorem Fun.okC {P : Program} {w : World} {K : PySem.W.Frag} {mg : Str → Option Value} {base : Heap} {x qual : Str} {st : Stmt} {f : Addr} {fd : FuncData} {N ps : List Str} {k : Nat} {sp : Sp} (F : Fun K x qual st f fd) (S : FnScope N ps (defScope st)) (len : ∀ vs H Q E, sp vs H Q E → vs.length = ps.length)
    (hbody : ∀ (A : Around) (outer : List Env) (s : Shared) (H : Hp) (vs : List V) (Q : VK) (E : XK), Room k (A.deeper (envOfC qual (defScope st) s.heap.objs.size f fd.code)) → sp vs H Q E →
      ∃ t, PSs (cxOf CX0 P w K mg base N qual (defScope st) f fd.code A outer s H E).nox (defBody st) t ∧ t { nx := fun _ H' => Q .non H', rt := Q } (start N vs) H) : FnOk P w K mg base CX0 (k + 1) f fd ps sp := by
  obtain ⟨oc, od, kV, doc, pm, an, cdv, ct, osl, rfl, lk, hcd⟩ := F.ex
  refine fn_of lk hcd S len fun A outer s H vs Q E hr hsp => ?_
  obtain ⟨t, h, q⟩ := hbody A outer s H vs Q E hr hsp
  exact ⟨t, h.nox, q⟩
def tSortL (K : Frag) (P : Addr) (qual : Str) (params : Arguments) (body : Expr) (scope : Scope) (lpos : Pos) (tl : TE) : TE := fun σ H Q => tl σ H fun x H1 => tLam P qual params body scope lpos σ H1 fun fv H2 =>
  ∃ (l f c : Addr) (xs : List V) (kz : List (Int × Int)) (B : Int), x = .ref l ∧ fv = .ref f ∧ H2 f = some (.ext (FnIs f c qual params body scope)) ∧ H2 c = some (.ext (CdIs c qual)) ∧ SqL K H2 l xs ∧ 0 < xs.length ∧ xs.length < 64 ∧ kz.length = xs.length ∧ (∀ z ∈ kz, 0 ≤ z.2 ∧ z.2 < B) ∧
    (∀ (i : Nat) (x : V) (z : Int × Int), xs[i]? = some x → kz[i]? = some z → ∃ p ys, x = .ref p ∧ H2 p = some (.tup ys) ∧ atI ys 1 = some (.int z.1) ∧ atI ys 0 = some (.int z.2)) ∧
    ∀ (D : Addr) (p : Array Nat) (H' : Hp), Same H2 H' → H' D = none → Srt.Ord xs.length p → Srt.Up (lexKey B kz) p xs.length → Q (.ref D) (upd H' D (.lst (p.toList.map fun i => xs.getD i .non)))
theorem pe_sortL {X : Cx} {l : Expr} {tl : TE} {P : Addr} {qual : Str} {params : Arguments} {body : Expr} {scope : Scope} {lpos kpos p pos : Pos} (hg : Gl X "sorted") (hm : X.mg "sorted" = none) (hl : PE X l tl) (hlam : PE X (.Lambda params body scope lpos) (tLam P qual params body scope lpos))
    (hr : Room 3 X.A) (S : FnScope ["box"] ["box"] scope) (hb : ∀ (pm ctv : Value) (c : Addr) (u : Value), bindArgs (kla_fn "<lambda>" qual params body scope [] pm (.ref c) ctv) ⟨[u], []⟩ = pure ((["box"] : List Str).zip [u]))
    (hbody : ∀ (f c : Addr) (A : Around) (outer : List Env) (s : Shared) (H : Hp), PE (cxOf CX0 X.prog X.w X.K X.mg X.base ["box"] qual scope f (.ref c) A outer s H E0).nox body (tTup (tCons (tOp (rIxT X.K) (tVar 0) (tC (.int 1))) (tCons (tOp (rIxT X.K) (tVar 0) (tC (.int 0))) tNil))))
    (hs : starEach [l] X.env = [(false, eval l X.env)] := by rfl) :
    PE X (.Call (.Name "sorted" p) [l] [⟨some "key", .Lambda params body scope lpos, kpos⟩] pos) (tSortL X.K P qual params body scope lpos tl) := by
  intro pins s σ H Q I h
  refine wpAny_Call_Name_kw (ld_blt I hg hm boot_sorted ?_ (by decide) (by decide))
  refine PyProof.Rows.callWith_kw (thn ((pa_cons hl pa_nil hs) pos pins s σ H (fun vs H1 => match vs with
    | [x] => tLam P qual params body scope lpos σ H1 fun fv H2 => ∃ (l f c : Addr) (xs : List V) (kz : List (Int × Int)) (B : Int), x = .ref l ∧ fv = .ref f ∧ H2 f = some (.ext (FnIs f c qual params body scope)) ∧ H2 c = some (.ext (CdIs c qual)) ∧ SqL X.K H2 l xs ∧ 0 < xs.length ∧ xs.length < 64 ∧ kz.length = xs.length ∧ (∀ z ∈ kz, 0 ≤ z.2 ∧ z.2 < B) ∧
      (∀ (i : Nat) (x : V) (z : Int × Int), xs[i]? = some x → kz[i]? = some z → ∃ p ys, x = .ref p ∧ H2 p = some (.tup ys) ∧ atI ys 1 = some (.int z.1) ∧ atI ys 0 = some (.int z.2)) ∧
      ∀ (D : Addr) (p : Array Nat) (H' : Hp), Same H2 H' → H' D = none → Srt.Ord xs.length p → Srt.Up (lexKey B kz) p xs.length → Q (.ref D) (upd H' D (.lst (p.toList.map fun i => xs.getD i .non)))
    | _ => False) I h) fun us s1 ⟨vs, H1, I1, r1, q1⟩ => ?_) (by rw [hs]; rfl) (by rw [hs]; rfl) rfl rfl
  match vs, q1 with
  | [x], q1 =>
  obtain ⟨u, rfl, ru⟩ := vals1 r1
  refine thn ((pk_cons (nm := some "key") hlam pk_nil) pos pins s1 σ H1 (fun ws H2 => match ws with
    | [fv] => ∃ (l f c : Addr) (xs : List V) (kz : List (Int × Int)) (B : Int), x = .ref l ∧ fv = .ref f ∧ H2 f = some (.ext (FnIs f c qual params body scope)) ∧ H2 c = some (.ext (CdIs c qual)) ∧ SqL X.K H2 l xs ∧ 0 < xs.length ∧ xs.length < 64 ∧ kz.length = xs.length ∧ (∀ z ∈ kz, 0 ≤ z.2 ∧ z.2 < B) ∧
      (∀ (i : Nat) (x : V) (z : Int × Int), xs[i]? = some x → kz[i]? = some z → ∃ p ys, x = .ref p ∧ H2 p = some (.tup ys) ∧ atI ys 1 = some (.int z.1) ∧ atI ys 0 = some (.int z.2)) ∧
      ∀ (D : Addr) (p : Array Nat) (H' : Hp), Same H2 H' → H' D = none → Srt.Ord xs.length p → Srt.Up (lexKey B kz) p xs.length → Q (.ref D) (upd H' D (.lst (p.toList.map fun i => xs.getD i .non)))
    | _ => False) I1 q1) fun us2 s2 ⟨ws, H2, I2, r2, q2⟩ => ?_
  match ws, q2 with
  | [fv], q2 =>
  obtain ⟨u2, rfl, ru2⟩ := vals1 r2
  obtain ⟨la, f, c, xs, kz, B, rfl, rfl, hf, hc, hL, h1, h64, hkz, hB, items, q⟩ := q2
  cases (show u = Value.ref la from ru)
  cases (show u2 = Value.ref f from ru2)
  show wpAny _ _ (call (.builtin "sorted") [.ref la] [(Str.ofString "key", .ref f)]) _ _ _
  refine sorted_pairs I2 hL h1 h64 hkz hB (fun H' => Same H2 H') (Same.refl _) (fun pins' i x v z s' H' hx hz rx I' g' => ?_) fun D p H' s' g' _ hD po pu I' => ⟨.ref D, _, I', rfl, q D p H' g' hD po pu⟩
  obtain ⟨pa, ys, rfl, hp, a1, a0⟩ := items i x z hx hz
  cases (show v = Value.ref pa from rx)
  refine wpAny_mono (lam_call (Q := fun v H'' => ∃ p', v = .ref p' ∧ Same H' H'' ∧ H'' p' = some (.tup [.int z.1, .int z.2])) I' (A := X.A.in1.in1) I'.ok.frames hr.in1.in1 S (g' _ _ hf) (g' _ _ hc) (fun pm ctv => hb pm ctv c _) (show Vals [V.ref pa] [Value.ref pa] from .cons rfl .nil) rfl ⟨_, hbody f c _ _ s' H', ?_⟩) (fun k s'' ⟨v', H'', I'', r'', p', e, S', h'⟩ => ?_) fun _ _ z => z
  · exact ⟨_, rfl, _, _, _, _, rfl, rfl, SqT.of (g' _ _ hp), a1, _, rfl, _, _, _, _, rfl, rfl, SqT.of (g' _ _ hp), a0, by show 2 ≤ sizeLine; decide, fun p' n' => ⟨p', rfl, fun b o e => by rw [upd_ne (ne_of_none e n')]; exact e, upd_same⟩⟩
  · subst e
    cases (show k = Value.ref p' from r'')
    exact ⟨p', H'', rfl, I'', g'.trans S', S', h'⟩
end L2
set_option Elab.async false
set_option linter.all false
set_option maxRecDepth 100000
set_option maxHeartbeats 4000000
namespace KO
open PySem L2 Til
def TL (a b : Bx) : Prop := a.t < b.t ∨ (a.t = b.t ∧ a.l ≤ b.l)
def picked {α : Type} (d : α) (p : Array Nat) (xs : List α) : List α := p.toList.map fun i => xs.getD i d
theorem range_pick {α : Type} (d : α) (xs : List α) : (List.range xs.length).map (fun i => xs.getD i d) = xs := by
  refine List.ext_getElem (by simp) fun i h1 h2 => ?_
  rw [List.getElem_map, List.getElem_range, L2.getD_at h2]
theorem picked_perm {α : Type} {d : α} {p : Array Nat} {xs : List α} (o : Srt.Ord xs.length p) : (picked d p xs).Perm xs := by
  have h : p.toList.Perm (List.range xs.length) := by
    have := Array.perm_iff_toList_perm.mp o.pm
    simpa using this
  have h2 := h.map fun i => xs.getD i d
  rw [range_pick] at h2
  exact h2
theorem picked_len {α : Type} {d : α} {p : Array Nat} {xs : List α} (o : Srt.Ord xs.length p) : (picked d p xs).length = xs.length := (picked_perm o).length_eq
def bx0 : Bx := ⟨0, 0, 0, 0⟩
theorem boxes_pick {H : Hp} {us : List V} {bs : List Bx} (h : BoxesAt H us bs) : ∀ (ls : List Nat), (∀ i ∈ ls, i < bs.length) → BoxesAt H (ls.map fun i => us.getD i .non) (ls.map fun i => bs.getD i bx0)
  | [], _ => .nil
  | i :: ls, hl => by
    have hi := hl i List.mem_cons_self
    obtain ⟨v, e, r⟩ := h.get (List.getElem?_eq_getElem hi)
    refine .cons ?_ (boxes_pick h ls fun j hj => hl j (List.mem_cons_of_mem _ hj))
    have e1 : us.getD i .non = v := by rw [List.getD_eq_getElem?_getD, e]; rfl
    show BoxAt H (us.getD i .non) (bs.getD i bx0)
    rw [e1, L2.getD_at hi]
    exact r
theorem boxes_picked {H : Hp} {us : List V} {bs : List Bx} {p : Array Nat} (h : BoxesAt H us bs) (o : Srt.Ord bs.length p) : BoxesAt H (picked .non p us) (picked bx0 p bs) :=
  boxes_pick h _ fun i hi => by
    have m : i ∈ p := by simpa using hi
    have m2 : i ∈ (List.toArray (List.range bs.length)) := (Array.Perm.mem_iff o.pm).mp m
    simpa using m2
theorem picked_sorted {bs : List Bx} {p : Array Nat} {B : Int} (o : Srt.Ord bs.length p) (hB : ∀ b ∈ bs, 0 ≤ b.l ∧ b.l < B) (u : Srt.Up (lexKey B (bs.map fun b => (b.t, b.l))) p bs.length) : (picked bx0 p bs).Pairwise TL := by
  rw [List.pairwise_iff_getElem]
  intro i j hi hj hij
  have lp : (picked bx0 p bs).length = bs.length := picked_len o
  have lz : p.size = bs.length := o.sz
  have key : ∀ k, k < bs.length → ∃ b, b ∈ bs ∧ (∀ h, (picked bx0 p bs)[k]'h = b) ∧ Srt.kv (lexKey B (bs.map fun b => (b.t, b.l))) p k = b.t * B + b.l := by
    intro k hk
    have hk' : p.getD k 0 < bs.length := o.lt hk
    refine ⟨bs[p.getD k 0], List.getElem_mem _, fun h => ?_, ?_⟩
    · have e : p.toList[k]'(by rw [Array.length_toList, lz]; exact hk) = p.getD k 0 := by simp [Array.getD, lz, hk]
      have : ∀ h', (List.map (fun i => bs.getD i bx0) p.toList)[k]'h' = bs[p.getD k 0] := fun h' => by rw [List.getElem_map, e, L2.getD_at hk']
      exact this h
    · unfold Srt.kv lexKey
      rw [List.getD_eq_getElem?_getD, List.getElem?_map, List.getElem?_eq_getElem hk']
      rfl
  obtain ⟨a, ma, ea, ka⟩ := key i (by omega)
  obtain ⟨b, mb, eb, kb⟩ := key j (by omega)
  rw [ea, eb]
  have le := u.le (i := i) (j := j) (by omega) (by omega)
  rw [ka, kb] at le
  have h1 := hB a ma
  have h2 := hB b mb
  have z := lex_lt (a := b.t) (c := a.t) h2 h1
  have nz : ¬ (b.t < a.t ∨ (b.t = a.t ∧ b.l < a.l)) := fun w => by have := z.mpr w; omega
  unfold TL
  omega
def SameT (T : Addr) (H H' : Hp) : Prop := ∀ b o, b ≠ T → H b = some o → H' b = some o
theorem boxes_sameT {T : Addr} {H H' : Hp} {ps : Array Value} (hT : H T = some (.tbl ps)) (S : SameT T H H') : ∀ {vs : List V} {bs : List Bx}, BoxesAt H vs bs → BoxesAt H' vs bs
  | _, _, .nil => .nil
  | _, _, .cons ⟨p, e, z⟩ t => .cons ⟨p, e, S _ _ (ne_of z hT (by intro z; cases z)) z⟩ (boxes_sameT hT S t)
def spLaid (T : Addr) : Sp := fun vs H Q _ => ∃ (l xa ya : Addr) (us : List V) (bs : List Bx) (xs ys : List Int) (n : Nat), vs = [.ref l, .ref xa, .ref ya] ∧ H l = some (.lst us) ∧ BoxesAt H us bs ∧ Tiles bs n n ∧ 0 < n ∧ bs.length ≤ 24 ∧
  H xa = some (.lst (xs.map V.int)) ∧ H ya = some (.lst (ys.map V.int)) ∧ Rising xs ∧ Rising ys ∧ xs.length = n + 1 ∧ ys.length = n + 1 ∧ xs.getD 0 0 = 0 ∧ ys.getD 0 0 = 0 ∧ H T = some (.tbl #[]) ∧
  ∀ (D : Addr) (us' : List V) (cs : List Bx) (H' : Hp), SameT T H H' → H' D = some (.lst us') → BoxesAt H' us' cs → cs.Perm (bs.map (lay xs ys)) → cs.Pairwise TL → Q (.ref D) H'
section
variable {P : Program} {w : World} {K : PySem.W.Frag} {mg : Str → Option Value} {base : Heap}
theorem scLaid : FnScope ["boxes", "xs", "ys", "found", "left", "top", "right", "below"] ["boxes", "xs", "ys"] (defScope sLaid) := ⟨rfl, rfl, rfl, by decide +kernel, rfl, by decide +kernel, by decide +kernel⟩
theorem ok_laid {f c T : Addr} {fd : FuncData} (F : Fun K "_law_laid" "_law_laid" sLaid f fd) (hcode : fd.code = .ref c) (C : PySem.W.CodeHd base c T) (hBM : BMain mg base) (ts : mg "sorted" = none) : FnOk P w K mg base CX0 4 f fd ["boxes", "xs", "ys"] (spLaid T) := by
  refine F.okC scLaid (fun vs H Q E h => ?_) (fun A outer s H vs Q E hr h => ?_)
  · obtain ⟨l, xa, ya, us, bs, xs, ys, n, rfl, _⟩ := h
    rfl
  · obtain ⟨l, xa, ya, us, bs, xs, ys, n, rfl, hl, hB, Ti, hn, hlen, hx, hy, Rx, Ry, lx, ly, x0, y0, hT, q⟩ := h
    refine ⟨_, (pss_cons (ps_set (i := 3) scLaid.nd rfl (Or.inl rfl) (pe_lst pa_nil))
      (pss_cons (ps_for PassesOwn.never rfl (pi_list (pv 0)) (pg_tup rfl (pgs_cons (pg_name (i := 4) scLaid.nd rfl (Or.inl rfl)) (pgs_cons (pg_name (i := 5) scLaid.nd rfl (Or.inl rfl)) (pgs_cons (pg_name (i := 6) scLaid.nd rfl (Or.inl rfl)) (pgs_cons (pg_name (i := 7) scLaid.nd rfl (Or.inl rfl)) pgs_nil)))))
        (pss_one (ps_expr (pe_bm PySem.F.plainAttrs_list PySem.F.slot_list_append PySem.F.type_list_append mt_append (pv 3) (pa_cons (pe_tup (pa_cons (pe_ix ix_list (pv 1) (pv 4) (fun _ _ => rfl)) (pa_cons (pe_ix ix_list (pv 2) (pv 5) (fun _ _ => rfl)) (pa_cons (pe_ix ix_list (pv 1) (pv 6) (fun _ _ => rfl)) (pa_cons (pe_ix ix_list (pv 2) (pv 7) (fun _ _ => rfl)) pa_nil))))) pa_nil)))))
      (pss_one (ps_ret (pe_sortL rfl ts (pv 3) (pe_lam (c := c) (P := T) hcode C hBM rfl rfl) hr ⟨rfl, rfl, rfl, by decide +kernel, rfl, by decide +kernel, by decide +kernel⟩ (fun _ _ _ _ => rfl)
        (fun _ _ _ _ _ _ => pe_tup (pa_cons (pe_ix ix_tup (pv 0) pe_int (fun _ _ => rfl)) (pa_cons (pe_ix ix_tup (pv 0) pe_int (fun _ _ => rfl)) pa_nil)))))))), ?_⟩
    refine seq_lst ⟨by show 0 ≤ sizeLine; decide, fun lf nlf => ?_⟩
    have Sf := same_new (o := .lst []) nlf
    refine ⟨_, rfl, l, rfl, ⟨_, SqL.of (Sf _ _ hl)⟩, ?_⟩
    refine for_list (K := K) (a := l) (xs := us) (fun i σ H2 => ∃ (vs : List V) (o4 o5 o6 o7 : Option V), σ = [some (.ref l), some (.ref xa), some (.ref ya), some (.ref lf), o4, o5, o6, o7] ∧ Same H H2 ∧ H2 lf = some (.lst vs) ∧ BoxesAt H2 vs ((bs.take i).map (lay xs ys)))
      ⟨[], none, none, none, none, rfl, Sf, upd_same, .nil⟩ (fun i σ H2 _ ⟨_, _, _, _, _, _, s2, _⟩ => SqL.of (s2 _ _ hl)) ?_ ?_
    · rintro i y σ H2 hi ⟨vs, o4, o5, o6, o7, rfl, S2, hf, hV⟩
      have hil : i < bs.length := by rw [← hB.len]; exact (List.getElem?_eq_some_iff.mp hi).1
      have eb : bs[i]? = some bs[i] := List.getElem?_eq_getElem hil
      generalize hbb : bs[i] = b at eb
      obtain ⟨v, hv, p, rfl, hp⟩ := hB.get eb
      rw [hi] at hv
      cases hv
      obtain ⟨b1, b2, b3, b4, b5, b6⟩ := Ti.wf b (List.mem_of_getElem? eb)
      refine ⟨p, _, rfl, SqT.of (S2 _ _ hp), rfl, _, _, rfl, _, _, rfl, _, _, rfl, _, _, rfl, rfl, ?_⟩
      refine ⟨_, rfl, .inl ⟨rfl, _, SqL.of hf⟩, ?_⟩
      refine cons_tup4 (v1 := .int (lay xs ys b).l) (v2 := .int (lay xs ys b).t) (v3 := .int (lay xs ys b).r) (v4 := .int (lay xs ys b).b) (evl_ixL (evl_var rfl) (evl_var rfl) (SqL.of (S2 _ _ hx)) (at_map b1 (by omega))) (evl_ixL (evl_var rfl) (evl_var rfl) (SqL.of (S2 _ _ hy)) (at_map b4 (by omega)))
        (evl_ixL (evl_var rfl) (evl_var rfl) (SqL.of (S2 _ _ hx)) (at_map (by omega) (by omega))) (evl_ixL (evl_var rfl) (evl_var rfl) (SqL.of (S2 _ _ hy)) (at_map (by omega) (by omega))) fun p9 n9 => ?_
      have S9 := same_new (o := .tup [.int (lay xs ys b).l, .int (lay xs ys b).t, .int (lay xs ys b).r, .int (lay xs ys b).b]) n9
      have hf9 := S9 _ _ hf
      have lv := hV.len
      rw [List.length_map, List.length_take] at lv
      refine ⟨lf, vs, _, rfl, rfl, hf9, Nat.lt_of_le_of_lt (show vs.length ≤ 1000 by omega) (by decide), ?_⟩
      refine ⟨vs ++ [.ref p9], _, _, _, _, rfl, same_upd (S2.trans S9) nlf, upd_same, ?_⟩
      have et : bs.take (i + 1) = bs.take i ++ [b] := by rw [← hbb]; exact (List.take_append_getElem hil).symm
      rw [et, List.map_append]
      exact BoxesAt.append (BoxesAt.updL hf9 (hV.same S9)) (.cons ⟨p9, rfl, by rw [upd_ne (ne_of hf9 upd_same (by intro z; cases z)).symm]; exact upd_same⟩ .nil)
    · rintro σ H2 ⟨vs, o4, o5, o6, o7, rfl, S2, hf, hV⟩
      rw [hB.len, List.take_length] at hV
      have lv := hV.len
      rw [List.length_map] at lv
      obtain ⟨cs, hcs⟩ : ∃ cs, cs = bs.map (lay xs ys) := ⟨_, rfl⟩
      rw [← hcs] at hV
      have lc : cs.length = bs.length := by rw [hcs, List.length_map]
      have Tc : Tiles cs (xs.getD n 0) (ys.getD n 0) := by rw [hcs]; exact tiles_laid Ti Rx Ry lx ly x0 y0
      have hpos := tiles_pos Ti (show (0 : Int) < n by omega) (by omega)
      refine ⟨_, rfl, #[], S2 _ _ hT, trivial, rfl, fun fa ca more nf nc hne => ?_⟩
      have fT : fa ≠ T := ne_of_none (S2 _ _ hT) nf |>.symm
      have cT : ca ≠ T := ne_of_none (S2 _ _ hT) nc |>.symm
      have ST : ∀ {o1 o2 : HO}, SameT T H2 (upd (upd (upd H2 T (.tbl (#[] ++ more))) ca o1) fa o2) := fun {o1 o2} b o hb e => by
        rw [upd_ne (ne_of_none e nf), upd_ne (ne_of_none e nc), upd_ne hb]
        exact e
      have lfT : lf ≠ T := ne_of hf (S2 _ _ hT) (by intro z; cases z)
      have boxT : ∀ {p : Addr} {xs : List V}, H2 p = some (.tup xs) → p ≠ T := fun e => ne_of e (S2 _ _ hT) (by intro z; cases z)
      refine ⟨lf, fa, ca, vs, cs.map fun b => (b.t, b.l), xs.getD n 0, rfl, rfl, upd_same, by rw [upd_ne hne.symm, upd_same], SqL.of (ST _ _ lfT hf), by omega, by omega, by rw [List.length_map]; omega, fun z hz => ?_, fun i x z hx hz => ?_, fun D p H' S' hD po pu => ?_⟩
      · obtain ⟨b, hb, rfl⟩ := List.mem_map.mp hz
        have o := Tc.wf b hb
        exact ⟨o.h0, by have := o.h1; have := o.h2; simp only; omega⟩
      · rw [List.getElem?_map] at hz
        cases e : cs[i]? with
        | none => rw [e] at hz; cases hz
        | some b =>
          rw [e] at hz
          cases hz
          obtain ⟨v, hv, p, rfl, hp⟩ := hV.get e
          rw [hx] at hv
          cases hv
          exact ⟨p, bxV b, rfl, ST _ _ (boxT hp) hp, rfl, rfl⟩
      · have lvc : vs.length = cs.length := by omega
        rw [lvc] at po pu
        have SD : SameT T H2 (upd H' D (.lst (p.toList.map fun i => vs.getD i .non))) := fun b o hb e => by
          have e' := S' _ _ (ST b o hb e)
          rw [upd_ne (ne_of_none e' hD)]
          exact e'
        have hV' : BoxesAt (upd H' D (.lst (p.toList.map fun i => vs.getD i .non))) vs cs := by
          exact boxes_sameT (S2 _ _ hT) SD hV
        refine q D _ (picked bx0 p cs) _ (fun b o hb e => SD b o hb (S2 _ _ e)) upd_same (boxes_picked hV' po) ?_ ?_
        · rw [← hcs]; exact picked_perm po
        · exact picked_sorted po (fun b hb => by have o := Tc.wf b hb; exact ⟨o.h0, by have := o.h1; have := o.h2; omega⟩) pu
end
end KO
set_option Elab.async false
set_option linter.all false
set_option maxRecDepth 100000
namespace L2
open PySem PySem.Spec PyProof.Rows
theorem iteF_of {A B : Prop} (h : if false = true then A else B) : B := by rwa [if_neg Bool.false_ne_true] at h
theorem iteT_of {A B : Prop} (h : if true = true then A else B) : A := by rwa [if_pos rfl] at h
def cxComp (X : Cx) (Nc : List Str) (scope : Scope) (cl : List (Str × Addr)) (s : Shared) (H : Hp) (C : Addr) (fp : List Addr) : Cx :=
  { X with N := Nc, s₀ := s, H₀ := H, env := compEnvC scope cl C X.env, outer := X.stack, ex := fp, fn := fun _ => false, pn := [], xe := fun _ _ => False }
def seen (ix : List (Option Nat)) (σ : St) : St := ix.map fun o => match o with
  | some j => (σ[j]?).getD none
  | none => none
theorem closure_of {scope : Scope} {env : Env} (h : ∀ x ∈ scope.names, x.2 = .free → ∃ c, env.cells.lookup x.1 = some c) :
    ∃ cl, closureFor scope env = pure cl ∧ (∀ x c, cl.lookup x = some c → env.cells.lookup x = some c) ∧ ∀ x ∈ scope.names, x.2 = .free → ∃ c, cl.lookup x.1 = some c := by
  have go : ∀ (ns : List (Str × NameKind)) (cs : List (Str × Addr)), (∀ x ∈ ns, x.2 = .free → ∃ c, env.cells.lookup x.1 = some c) → (∀ x c, cs.lookup x = some c → env.cells.lookup x = some c) →
      ∃ cl, (forIn ns cs fun (x : Str × NameKind) (r : List (Str × Addr)) => (if (x.2 == .free) = true then (do let c ← cellOf env x.1; pure (ForInStep.yield ((x.1, c) :: r))) else pure (ForInStep.yield r) : Sem _)) = pure cl ∧
        (∀ x c, cl.lookup x = some c → env.cells.lookup x = some c) ∧ (∀ x ∈ ns, x.2 = .free → ∃ c, cl.lookup x.1 = some c) ∧ ∀ x c, cs.lookup x = some c → ∃ c', cl.lookup x = some c' := by
    intro ns
    induction ns with
    | nil => intro cs _ h2; exact ⟨cs, rfl, h2, fun x hx => (nomatch hx), fun x c e => ⟨c, e⟩⟩
    | cons p r ih =>
      obtain ⟨n, k⟩ := p
      intro cs h1 h2
      by_cases hk : k = .free
      · subst hk
        obtain ⟨c, hc⟩ := h1 (n, .free) List.mem_cons_self rfl
        have hcs : ∀ x c', List.lookup x ((n, c) :: cs) = some c' → env.cells.lookup x = some c' := fun x c' e => by
          rw [List.lookup_cons] at e
          cases hx : x == n with
          | true => rw [hx] at e; cases e; rw [eq_of_beq hx]; exact hc
          | false => rw [hx] at e; exact h2 x c' e
        obtain ⟨cl, e1, e2, e3, e4⟩ := ih ((n, c) :: cs) (fun x hx => h1 x (List.mem_cons_of_mem _ hx)) hcs
        refine ⟨cl, ?_, e2, fun x hx hf => ?_, fun x c' e => ?_⟩
        · rw [List.forIn_cons]
          have : cellOf env n = pure c := by unfold cellOf; rw [hc]
          simp only [beq_self_eq_true, if_true, this, pure_bind]
          exact e1
        · rcases List.mem_cons.mp hx with rfl | hx
          · exact e4 n c (by rw [List.lookup_cons, beq_self_eq_true])
          · exact e3 x hx hf
        · cases hx : x == n with
          | true => exact e4 x c (by rw [List.lookup_cons, hx])
          | false => exact e4 x c' (by rw [List.lookup_cons, hx]; exact e)
      · obtain ⟨cl, e1, e2, e3, e4⟩ := ih cs (fun x hx => h1 x (List.mem_cons_of_mem _ hx)) h2
        refine ⟨cl, ?_, e2, fun x hx hf => ?_, e4⟩
        · rw [List.forIn_cons]
          have hb : (k == NameKind.free) = false := by simpa using hk
          simp only [hb, Bool.false_eq_true, if_false, pure_bind]
          exact e1
        · rcases List.mem_cons.mp hx with rfl | hx
          · exact absurd hf hk
          · exact e3 x hx hf
  obtain ⟨cl, e1, e2, e3, _⟩ := go scope.names [] h (fun x c e => by cases e)
  refine ⟨cl, ?_, e2, e3⟩
  unfold closureFor
  simp only [bind_pure]
  exact e1
def PTs (X : Cx) (ifs : List Expr) (t : TT) : Prop :=
  ∀ (pins : List (Addr × Obj)) (s : Shared) (σ : St) (H : Hp) (Q : Bool → Hp → Prop), Inv X pins σ H s → t σ H Q →
    wpAny (model X.prog X.w) X.A (forIn ifs true fun c r => if r = true then do let ok ← isTrue c X.env (eval c X.env); pure (ForInStep.yield ok) else pure (ForInStep.yield r)) (TP X pins σ Q) X.xe s
def tYes : TT := fun _ H Q => Q true H
theorem pts_nil {X : Cx} : PTs X [] tYes := fun _ _ _ H _ I h => wpAny_tests_nil ⟨H, I, h⟩
theorem pts_one {X : Cx} {c : Expr} {t : TT} (h : PT X c t) : PTs X [c] t := fun pins s σ H Q I q => wpAny_tests_one (h pins s σ H Q I q)
def tCompR (wi : TI) (ix : List (Option Nat)) (g : TG) (tc : TT) (te : TE) (σ : St) (H : Hp) (R : List V → Hp → Prop) : Prop := wi σ H fun J H1 => ∃ W : Nat → Nat → List V → St → Hp → Prop, (∃ m, W 0 m [] (seen ix σ) H1) ∧ ∀ i m ys σ' H', W i m ys σ' H' →
  (J.stop i H' ∧ ys.length ≤ sizeLine ∧ R ys H') ∨
  (J.go i H' ∧ ys.length ≤ sizeLine ∧ ∃ N : List V → St → Hp → Prop, (∀ ys' σ2 H2, N ys' σ2 H2 → ∃ m', m' < m ∧ W (i + 1) m' ys' σ2 H2) ∧
    ∀ x H2, J.yld i H' x H2 → g x σ' H2 fun σ2 H3 => tc σ2 H3 fun b H4 => if b = true then te σ2 H4 fun y H5 => N (ys ++ [y]) σ2 H5 else N ys σ2 H4)
def tComp (wi : TI) (ix : List (Option Nat)) (g : TG) (tc : TT) (te : TE) : TE := fun σ H Q => tCompR wi ix g tc te σ H fun ys H' => ∀ l, H' l = none → Q (.ref l) (upd H' l (.lst ys))
def compOk (scope outer : Scope) (N Nc : List Str) (ix : List (Option Nat)) : Bool :=
  scope.names.all (fun y => y.2 != .cell) && scope.kind == .function && scope.names.all (fun y => y.2 != .local || scope.names.lookup y.1 == some .local) &&
  scope.names.all (fun y => y.2 != .free || outer.names.lookup y.1 == some .cell || outer.names.lookup y.1 == some .free) && ix.length == Nc.length &&
  (List.range Nc.length).all fun i => match ix[i]?, Nc[i]? with
    | some (some j), some x => N[j]? == some x && (outer.names.lookup x == some .cell || outer.names.lookup x == some .free) && scope.names.lookup x == some .free
    | _, _ => true
theorem relabel_of {env : Env} : ∀ {names : List (Str × NameKind)} {y : Str} {k : NameKind}, (∀ z ∈ names, z.2 ≠ .cell) →
    (names.map fun (n, k) => if (k == NameKind.free && env.scope.kind == .function && env.kindOf n == some .cell) then (n, NameKind.cell) else (n, k)).lookup y = some k → k = .cell ∨ k = .free → ∃ z ∈ names, z.1 = y ∧ z.2 = .free
  | [], _, _, _, h, _ => by simp at h
  | (n, k0) :: r, y, k, hc, h, hk => by
    rw [List.map_cons] at h
    have h : List.lookup y ((if (k0 == NameKind.free && env.scope.kind == .function && env.kindOf n == some .cell) = true then (n, NameKind.cell) else (n, k0)) :: _) = some k := h
    cases hx : y == n with
    | true =>
      by_cases hb : (k0 == NameKind.free && env.scope.kind == .function && env.kindOf n == some .cell) = true
      · simp only [Bool.and_eq_true, beq_iff_eq] at hb
        exact ⟨(n, k0), List.mem_cons_self, (eq_of_beq hx).symm, hb.1.1⟩
      · rw [if_neg hb, List.lookup_cons, hx] at h
        cases h
        rcases hk with rfl | rfl
        · exact absurd rfl (hc (n, .cell) List.mem_cons_self)
        · exact ⟨(n, .free), List.mem_cons_self, (eq_of_beq hx).symm, rfl⟩
    | false =>
      have h' : List.lookup y (r.map fun (n, k) => if (k == NameKind.free && env.scope.kind == .function && env.kindOf n == some .cell) then (n, NameKind.cell) else (n, k)) = some k := by
        by_cases hb : (k0 == NameKind.free && env.scope.kind == .function && env.kindOf n == some .cell) = true
        · rw [if_pos hb, List.lookup_cons, hx] at h; exact h
        · rw [if_neg hb, List.lookup_cons, hx] at h; exact h
      obtain ⟨z, hz, e1, e2⟩ := relabel_of (fun z hz => hc z (List.mem_cons_of_mem _ hz)) h' hk
      exact ⟨z, List.mem_cons_of_mem _ hz, e1, e2⟩
theorem relabel_free {env : Env} : ∀ {names : List (Str × NameKind)} {y : Str}, names.lookup y = some .free →
    (names.map fun (n, k) => if (k == NameKind.free && env.scope.kind == .function && env.kindOf n == some .cell) then (n, NameKind.cell) else (n, k)).lookup y = some .cell ∨
    (names.map fun (n, k) => if (k == NameKind.free && env.scope.kind == .function && env.kindOf n == some .cell) then (n, NameKind.cell) else (n, k)).lookup y = some .free
  | [], _, h => by simp at h
  | (n, k0) :: r, y, h => by
    rw [List.map_cons]
    show List.lookup y ((if (k0 == NameKind.free && env.scope.kind == .function && env.kindOf n == some .cell) = true then (n, NameKind.cell) else (n, k0)) :: _) = _ ∨ List.lookup y ((if (k0 == NameKind.free && env.scope.kind == .function && env.kindOf n == some .cell) = true then (n, NameKind.cell) else (n, k0)) :: _) = _
    cases hx : y == n with
    | true =>
      rw [List.lookup_cons, hx] at h
      cases h
      by_cases hb : ((NameKind.free == NameKind.free) && env.scope.kind == .function && env.kindOf n == some .cell) = true
      · rw [if_pos hb, List.lookup_cons, hx]; exact .inl rfl
      · rw [if_neg hb, List.lookup_cons, hx]; exact .inr rfl
    | false =>
      rw [List.lookup_cons, hx] at h
      by_cases hb : (k0 == NameKind.free && env.scope.kind == .function && env.kindOf n == some .cell) = true
      · rw [if_pos hb, List.lookup_cons, hx]; exact relabel_free h
      · rw [if_neg hb, List.lookup_cons, hx]; exact relabel_free h
theorem comp_core {X : Cx} {elt tg iter : Expr} {ifs : List Expr} {scope : Scope} {pos ipos : Pos} {Nc : List Str} {ix : List (Option Nat)} {wi : TI} {g : TG} {tc : TT} {te : TE} {use : Option (Value → Sem Unit)} {Q' : Value → Shared → Prop} {R : List V → Hp → Prop}
    {pins : List (Addr × Obj)} {σ : St} {H : Hp} {s : Shared} (hc : X.calm = true)
    (hcell : ∀ y ∈ scope.names, y.2 ≠ .cell) (hkind : scope.kind = .function) (hnames : ∀ y ∈ scope.names, y.2 = .local → scope.names.lookup y.1 = some .local)
    (hfree : ∀ y ∈ scope.names, y.2 = .free → X.env.kindOf y.1 = some .cell ∨ X.env.kindOf y.1 = some .free) (hvis : ∀ y k, (relabel scope X.env).names.lookup y = some k → k = .cell ∨ k = .free → ∃ z ∈ scope.names, z.1 = y ∧ z.2 = .free)
    (hlen : ix.length = Nc.length) (hix : ∀ (i : Nat) (x : Str) (j : Nat), Nc[i]? = some x → ix[i]? = some (some j) → X.N[j]? = some x ∧ Vis X.env.scope x ∧ (X.env.kindOf x = some .local → False) ∧ ((relabel scope X.env).names.lookup x = some .cell ∨ (relabel scope X.env).names.lookup x = some .free))
    (hi : PI X tg iter wi) (hg : ∀ cl s H C fp, PG (cxComp X Nc scope cl s H C fp) tg g) (hifs : ∀ cl s H C fp, PTs (cxComp X Nc scope cl s H C fp) ifs tc) (he : ∀ cl s H C fp, PE (cxComp X Nc scope cl s H C fp) elt te)
    (hs : ∀ x, foldedSetIterable iter X.env x = pure x) (I : Inv X pins σ H s) (h : tCompR wi ix g tc te σ H R)
    (fin : ∀ (D C : Addr) (oC : Obj) (ys : List V) (H3 : Hp) (s4 : Shared), (∃ m, ∀ h' : Heap, h'.get? C = some oC → h'.Ns C m) → H3 D = none → (upd H3 D (.lst ys)) C = none → Young X pins C → Inv X (pins ++ [(C, oC)]) σ (upd H3 D (.lst ys)) s4 → R ys H3 →
      compPost (model X.prog X.w) X.A X.xe use Q' (.ref D) C (.ok .next) s4) :
    wpAny (model X.prog X.w) X.A (comprehension (.ListComp elt [⟨tg, iter, ifs, 0⟩] scope pos) scope X.env ipos (newList []) false (eval iter X.env) use) Q' X.xe s := by
  obtain ⟨cl, hclos, clX, clF⟩ := closure_of (scope := scope) (env := X.env) fun x hx hf => I.ok.has x.1 (hfree x hx hf)
  refine wpAny_comprehension_free (use := use) rfl hs hclos hkind hnames (thn (hi pins s σ H _ I h) fun v s1 h1 => thn h1 fun itv s2 h2 => ?_)
  obtain ⟨it, fp, tn, J, H1, rfl, I1, T, t0, hfp, W, ⟨m0, w0⟩, turn⟩ := h2
  refine wpAny_newObj_type (wpAny_newFunctionEnv hcell (by intro y hy; simp at hy) (fun h₁ hns₁ hsb₁ => ?_) hkind)
  dsimp only at hns₁ hsb₁ ⊢
  generalize hH2 : s2.heap.push { cls := .type "list", dict := none, data := .seq ([] : List Value).toArray } = H2 at hns₁ hsb₁ ⊢
  have hC : H2.objs.size = s2.heap.objs.size + 1 := by rw [← hH2, Heap.size_push]
  have hDC : s2.heap.objs.size ≠ H2.objs.size := by rw [hC]; exact Nat.ne_of_lt (Nat.lt_succ_self _)
  have old : ∀ b o, s2.heap.get? b = some o → h₁.get? b = some o := fun b o e => by
    have hb := Heap.lt_size e
    exact hsb₁.extBut b o (by rw [hC]; exact Nat.ne_of_lt (Nat.lt_succ_of_lt hb)) (Heap.get?_push_of_some _ (hH2 ▸ Heap.get?_push_of_some _ e))
  obtain ⟨e0, hacc⟩ : ∃ e0, h₁.get? s2.heap.objs.size = some (seqObj "list" ([] : List Value).toArray e0) := ⟨_, hsb₁.extBut _ _ hDC (Heap.get?_push_of_some _ (hH2 ▸ Heap.get?_push_size _ rfl))⟩
  generalize hCC : H2.objs.size = C at hns₁ hsb₁ hDC hC ⊢
  generalize hDD : s2.heap.objs.size = D at hDC hC hacc ⊢
  have hDle : s2.heap.objs.size ≤ D := Nat.le_of_eq hDD
  have hCle : s2.heap.objs.size ≤ C := by rw [hC, ← hDD]; exact Nat.le_succ _
  have yD := I1.young hDle
  have nD : H1 D = none := I1.hok.fresh hDle
  have nC : H1 C = none := I1.hok.fresh hCle
  have fpLt : ∀ b ∈ fp, b < s2.heap.objs.size := fun b hb => by
    obtain ⟨o, e, _⟩ := T.obj 0 _ t0 b hb
    exact Heap.lt_size e
  have fpD : D ∉ fp := fun hm => absurd (fpLt _ hm) (Nat.not_lt.mpr hDle)
  have fpC : C ∉ fp := fun hm => absurd (fpLt _ hm) (Nat.not_lt.mpr hCle)
  have frN : ∀ b ∈ frs X.stack, b < s2.heap.objs.size := fun b hb => by
    obtain ⟨_, o, ho, _⟩ := I1.stack.mem hb
    exact Heap.lt_size ho
  have frFp : ∀ b ∈ fp, b ∉ frs X.stack := fun b hb hm => by
    rcases List.mem_cons.mp (I1.stkSub b hm) with z | z
    · exact (hfp b hb).2.1 z
    · exact (hfp b hb).2.2.1 z
  -- the block's context
  have ok : (cxComp X Nc scope cl s2 H1 C fp).Ok :=
    ⟨I.ok.mod, (by show (relabel scope X.env).kind = _; exact hkind), I.ok.glob, I.ok.blt, hCle, (fun x y c e1 e2 => I.ok.inj x y c (clX x c e1) (clX y c e2)),
      (fun x hx => by
        obtain ⟨z, hz, rfl, hf⟩ : ∃ z ∈ scope.names, z.1 = x ∧ z.2 = .free := by
          rcases hx with hx | hx
          · exact hvis x _ hx (.inl rfl)
          · exact hvis x _ hx (.inr rfl)
        exact clF z hz hf), (fun x c z => nomatch z), I.ok.hd, I.ok.frames, .inl rfl,
      (fun b hb => ⟨fun z => fpC ((show b = C from z) ▸ hb), fun x c e => (hfp b hb).2.2.2.2.1 x c (clX x c e)⟩), (fun b o e => I1.bs b o e), Nat.le_trans I.ok.bsz I1.sz,
      (fun b o e hb => by
        rcases (hfp b hb).2.2.2.1 with z | z
        · exact I.ok.noex b o e z
        · have := Heap.lt_size (I.ok.bs b o e).1
          exact absurd this (Nat.not_lt.mpr z)),
      frFp, I1.stack, I1.stkFree⟩
  have start : ∀ tk, Inv (cxComp X Nc scope cl s2 H1 C fp) [(D, seqObj "list" ([] : List Value).toArray e0)] (seen ix σ) H1 { s2 with heap := h₁, toks := tk } := fun tk => by
    refine ⟨ok, rfl, I1.bare, Un.kept old, ⟨_, hns₁, fun i x v e1 e2 e3 => ?_⟩, fun x c e => ?_, nC, fun x c e => I1.freeC x c (clX x c e), fun p hp => ?_, I1.hok.kept old, by show (seen ix σ).length = Nc.length; unfold seen; rw [List.length_map]; exact hlen⟩
    · unfold seen at e2
      rw [List.getElem?_map] at e2
      cases ei : ix[i]? with
      | none => rw [ei] at e2; cases e2
      | some o =>
        rw [ei] at e2
        cases o with
        | none => cases e2
        | some j =>
          have e2' : (σ[j]?).getD none = some v := Option.some.inj e2
          have e2'' : σ[j]? = some (some v) := by
            cases ej : σ[j]? with
            | none => rw [ej] at e2'; cases e2'
            | some z => rw [ej] at e2'; exact congrArg some e2'
          obtain ⟨n1, n2, n3, n4⟩ := hix i x j e1 ei
          obtain ⟨m, hm, hl⟩ := I1.loc
          obtain ⟨u, ru, lk⟩ := hl j x v n1 e2'' n2
          refine ⟨u, ru, .inr ⟨n4, ?_⟩⟩
          rcases lk with ⟨k, _⟩ | ⟨_, c, ec, hc'⟩
          · exact (n3 k).elim
          · obtain ⟨z, hz, rfl, hf⟩ : ∃ z ∈ scope.names, z.1 = x ∧ z.2 = .free := by
              rcases n4 with hx | hx
              · exact hvis x _ hx (.inl rfl)
              · exact hvis x _ hx (.inr rfl)
            obtain ⟨c', ec'⟩ := clF z hz hf
            have : c' = c := Option.some.inj ((clX _ _ ec').symm.trans ec)
            subst this
            obtain ⟨o, ho, hd⟩ := hc'
            exact ⟨c', ec', o, old _ o ho, hd⟩
    · obtain ⟨v, o, ho, hd⟩ := I1.cell x c (clX x c e)
      exact ⟨v, o, old _ o ho, hd⟩
    · have hp' : p = (D, seqObj "list" ([] : List Value).toArray e0) := by simpa [cxComp] using hp
      subst hp'
      exact ⟨hacc, nD, hDC, fun hm => absurd (frN _ hm) (Nat.not_lt.mpr hDle), fun v z => by cases z⟩
  have stat : ∀ {ks : List Value} {e : Nat} {H' : Hp}, (∀ b ∈ fp, H' b = none) → ∀ b ∈ fp, FpOk (cxComp X Nc scope cl s2 H1 C fp) [(D, seqObj "list" ks.toArray e)] H' b := fun {ks e H'} hn b hb =>
    ⟨hn b hb, fun z => fpC ((show b = C from z) ▸ hb), frFp b hb, .inl hb, fun x c ec => (hfp b hb).2.2.2.2.1 x c (clX x c ec), fun p hp z => by
      have hp' : p = (D, seqObj "list" ks.toArray e) := by simpa [cxComp] using hp
      subst hp'
      exact fpD ((show b = D from z.symm) ▸ hb)⟩
  have loop : ∀ tk, codeAny (model X.prog X.w) X.A (.compLoop (.ListComp elt [⟨tg, iter, ifs, 0⟩] scope pos) 0 (.ref it) (.ref D) (compEnvC scope cl C X.env)) (compPost (model X.prog X.w) X.A X.xe use Q' (.ref D) C) { s2 with heap := h₁, toks := tk } := fun tk => by
    refine codeAny_loop rfl (fun n s' => ∃ i ys ks e σ' H', Inv (cxComp X Nc scope cl s2 H1 C fp) [(D, seqObj "list" ks.toArray e)] σ' H' s' ∧ Vals ys ks ∧ tn i s'.heap ∧ (∀ b ∈ fp, H' b = none) ∧ W i n ys σ' H') ?_ m0
      ⟨0, [], [], e0, _, H1, start tk, .nil, T.keep _ _ _ t0 fun b _ o e => old b o e, fun b hb => (hfp b hb).1, w0⟩
    rintro n s3 ⟨i, ys, ks, e, σ3, H3, I3, rv, st3, fr3, w3⟩
    show wpAny _ X.A ((compTurn (.ListComp elt [⟨tg, iter, ifs, 0⟩] scope pos) 0 (.ref it) (.ref D) (compEnvC scope cl C X.env)).onRaise (fun x => do noteFrame x (compEnvC scope cl C X.env); theTreesLotGoes x)) _ _ s3
    refine wpAny_noted ?_
    rw [compTurn_list]
    refine wpAny_bind (wpAny_standAt ?_)
    have lk := rv.length
    rcases turn i n ys σ3 H3 w3 with ⟨stop, sz, q⟩ | ⟨go, sz, N, hN, step⟩
    · refine wpAny_bind (thn (T.done (cxComp X Nc scope cl s2 H1 C fp) rfl rfl rfl hc i _ s3 σ3 H3 _ I3 (stat fr3) st3 stop) fun r s4 ⟨hr, I4⟩ => ?_)
      subst hr
      refine wpAny_pure ?_
      obtain ⟨m, ⟨oC, esC, epC, hoC, hdC, rC⟩, _⟩ := I4.loc
      have hoC : s4.heap.get? C = some oC := hoC
      have pD := I4.pin (D, seqObj "list" ks.toArray e) (List.mem_append_right _ List.mem_cons_self)
      have nC4 : H3 C = none := I4.free
      have yC := I1.young hCle
      have I5 : Inv X pins σ H3 s4 := I1.call' (ch := fp) I4.os (show Un (frs X.stack) fp H1 H3 s2.heap s4.heap from I4.base) I4.hok I4.bare fun b hb => ⟨(hfp b hb).2.2.2.1, (hfp b hb).2.1, (hfp b hb).2.2.2.2.1, (hfp b hb).2.2.2.2.2⟩
      have I6 := I5.track (p := D) (o := .lst ys) pD.2.1 (Heap.get?_none_of_le (Nat.le_trans I1.sz hDle)) yD.lo yD.ce yD.pi ⟨sz, ks, e, rv, pD.1⟩
      have nC6 : (upd H3 D (.lst ys)) C = none := by rw [upd_ne hDC.symm]; exact nC4
      have I7 : Inv X (pins ++ [(C, oC)]) σ (upd H3 D (.lst ys)) s4 := I6.pins_of fun p hp => by
        rcases List.mem_append.mp hp with hp | hp
        · exact I6.pin p (List.mem_append_right _ hp)
        · obtain rfl := List.mem_singleton.mp hp
          exact ⟨hoC, nC6, yC.lo, yC.fs, fun v z => by rw [hdC] at z; cases z⟩
      exact fin D C oC ys H3 s4 ⟨m, fun h' e' => ⟨oC, esC, epC, e', hdC, rC⟩⟩ pD.2.1 nC6 yC I7 q
    · refine wpAny_bind (thn (T.item (cxComp X Nc scope cl s2 H1 C fp) rfl rfl rfl hc i _ s3 σ3 H3 _ I3 (stat fr3) st3 go) fun r s4 ⟨u, hr, h4⟩ => ?_)
      subst hr
      refine wpAny_bind (thn h4 fun _ s5 ⟨x, H5, I5, r5, y5, st5, fr5⟩ => ?_)
      have I5' := I5.pinned (stat fr5) (T.obj _ _ st5)
      refine wpAny_bind (wpAny_mono (hg cl s2 H1 C fp _ s5 σ3 H5 x u _ I5' r5 (step x H5 y5)) (fun _ s6 ⟨σ6, H6, I6, q6⟩ => ?_) fun _ _ z => False.elim z)
      refine wpAny_bind (wpAny_mono (hifs cl s2 H1 C fp _ s6 σ6 H6 _ I6 q6) (fun ok s7 ⟨H7, I7, q7⟩ => ?_) fun _ _ z => False.elim z)
      have fin : ∀ {ks' : List Value} {e' : Nat} {ys' : List V} {σ8 : St} {H8 : Hp} {s8 : Shared}, Inv (cxComp X Nc scope cl s2 H1 C fp) ([(D, seqObj "list" ks'.toArray e')] ++ pinsAt fp s5.heap) σ8 H8 s8 → Vals ys' ks' → N ys' σ8 H8 →
          ∃ m, m < n ∧ ∃ i ys ks e σ' H', Inv (cxComp X Nc scope cl s2 H1 C fp) [(D, seqObj "list" ks.toArray e)] σ' H' s8 ∧ Vals ys ks ∧ tn i s8.heap ∧ (∀ b ∈ fp, H' b = none) ∧ W i m ys σ' H' := fun {ks' e' ys' σ8 H8 s8} I8 rv' n8 => by
        obtain ⟨m', hm, w8⟩ := hN _ σ8 H8 n8
        refine ⟨m', hm, i + 1, ys', ks', e', σ8, H8, I8.unpinned, rv', T.keep _ _ _ st5 fun b hb o eo => (I8.pin (b, o) (List.mem_append_right _ (List.mem_append_right _ (mem_pinsAt hb eo)))).1, fun b hb => ?_, w8⟩
        obtain ⟨o, eo, d⟩ := T.obj _ _ st5 b hb
        exact (I8.pin (b, o) (List.mem_append_right _ (List.mem_append_right _ (mem_pinsAt hb eo)))).2.1
      cases ok with
      | false =>
        have q7 := iteF_of q7
        exact wpAny_pure ⟨rfl, fin I7 rv q7⟩
      | true =>
        have q7 := iteT_of q7
        refine wpAny_bind (wpAny_bind (wpAny_mono (he cl s2 H1 C fp _ s7 σ6 H7 _ I7 q7) (fun y s8 ⟨vy, H8, I8, ry, n8⟩ => ?_) fun _ _ z => False.elim z))
        have pD := I8.pin (D, seqObj "list" ks.toArray e) (List.mem_append_right _ (List.mem_append_left _ List.mem_cons_self))
        refine wpAny_bind (wpAny_list_append_plain (hsz := by rw [List.size_toArray, ← lk]; exact sz) ⟨e, pD.1⟩ fun h9 hl9 hs9 => ?_)
        refine wpAny_pure (wpAny_pure ⟨rfl, ?_⟩)
        obtain ⟨e9, hl9⟩ := hl9
        have ea : ks.toArray.push y = (ks ++ [y]).toArray := by simp
        rw [ea] at hl9
        refine fin (ks' := ks ++ [y]) (e' := e9) (ys' := ys ++ [vy]) ?_ (Vals.append rv (.cons ry .nil)) n8
        have ne9 : ∀ p ∈ pinsAt fp s5.heap, p.1 ≠ D := fun p hp z => fpD (z ▸ (of_pinsAt hp).1)
        have yDb : Young (cxComp X Nc scope cl s2 H1 C fp) (pinsAt fp s5.heap) D := ⟨hDC, fun hm => absurd (frN _ hm) (Nat.not_lt.mpr hDle), .inr hDle, fun x c ec => yD.ce x c (clX x c ec), fun p hp => ne9 p (by simpa [cxComp] using hp)⟩
        have I8a : Inv (cxComp X Nc scope cl s2 H1 C fp) (pinsAt fp s5.heap) σ6 H8 s8 := I8.pins_of fun p hp => I8.pin p (List.mem_append_right _ (List.mem_append_right _ hp))
        have I8b := I8a.record yDb pD.2.1 hs9
        exact I8b.pins_of fun p hp => by
          rcases List.mem_append.mp hp with hp | hp
          · obtain rfl := List.mem_singleton.mp hp
            exact ⟨hl9, pD.2.1, yDb.lo, yDb.fs, fun v z => by cases z⟩
          · exact I8b.pin p (List.mem_append_right _ hp)
  exact codeAny_compStart_list (loop _) (T.self _ 0 _ _ _ (T.keep _ _ _ t0 fun b _ o e => old b o e) (loop _))
theorem compOk_all {X : Cx} {scope : Scope} {Nc : List Str} {ix : List (Option Nat)} (h : compOk scope X.env.scope X.N Nc ix = true) : (∀ y ∈ scope.names, y.2 ≠ .cell) ∧ scope.kind = .function ∧ (∀ y ∈ scope.names, y.2 = .local → scope.names.lookup y.1 = some .local) ∧
    (∀ y ∈ scope.names, y.2 = .free → X.env.kindOf y.1 = some .cell ∨ X.env.kindOf y.1 = some .free) ∧ ix.length = Nc.length ∧
    ∀ (i : Nat) (x : Str) (j : Nat), Nc[i]? = some x → ix[i]? = some (some j) → X.N[j]? = some x ∧ Vis X.env.scope x ∧ (X.env.kindOf x = some .local → False) ∧ ((relabel scope X.env).names.lookup x = some .cell ∨ (relabel scope X.env).names.lookup x = some .free) := by
  unfold compOk at h
  simp only [Bool.and_eq_true, beq_iff_eq, List.all_eq_true, Bool.or_eq_true, bne_iff_ne] at h
  obtain ⟨⟨⟨⟨⟨h1, h2⟩, h3⟩, h4⟩, h5⟩, h6⟩ := h
  refine ⟨h1, h2, fun y hy e => ?_, fun y hy e => ?_, h5, fun i x j e1 e2 => ?_⟩
  · rcases h3 y hy with z | z
    · exact absurd e z
    · exact z
  · rcases h4 y hy with (z | z) | z
    · exact absurd e z
    · exact .inl z
    · exact .inr z
  · have q := h6 i (List.mem_range.mpr (List.getElem?_eq_some_iff.mp e1).1)
    rw [e1, e2] at q
    simp only [Bool.and_eq_true, beq_iff_eq, Bool.or_eq_true] at q
    obtain ⟨⟨q1, q2⟩, q3⟩ := q
    refine ⟨q1, ?_, fun z => ?_, relabel_free q3⟩
    · rcases q2 with z | z
      · exact .inr (.inl z)
      · exact .inr (.inr z)
    · have z' : X.env.scope.names.lookup x = some .local := z
      rcases q2 with y | y
      · rw [y] at z'; cases z'
      · rw [y] at z'; cases z'
theorem pe_comp {X : Cx} {elt tg iter : Expr} {ifs : List Expr} {scope : Scope} {pos : Pos} {Nc : List Str} {ix : List (Option Nat)} {wi : TI} {g : TG} {tc : TT} {te : TE} (hc : X.calm = true) (hok : compOk scope X.env.scope X.N Nc ix = true)
    (hi : PI X tg iter wi) (hg : ∀ cl s H C fp, PG (cxComp X Nc scope cl s H C fp) tg g) (hifs : ∀ cl s H C fp, PTs (cxComp X Nc scope cl s H C fp) ifs tc) (he : ∀ cl s H C fp, PE (cxComp X Nc scope cl s H C fp) elt te)
    (hs : ∀ x, foldedSetIterable iter X.env x = pure x := by intro _; rfl) : PE X (.ListComp elt [⟨tg, iter, ifs, 0⟩] scope pos) (tComp wi ix g tc te) := by
  intro pins s σ H Q I h
  obtain ⟨h1, h2, h3, h4, h5, h6⟩ := compOk_all hok
  rw [eval_ListComp]
  refine comp_core (Q' := EP X pins σ Q) hc h1 h2 h3 h4 (fun y k e hk => relabel_of h1 e hk) h5 h6 hi hg hifs he hs I h fun D C oC ys H3 s4 hN nD nC yC I4 q => ?_
  have pC := I4.pin (C, oC) (List.mem_append_right _ (List.mem_append_right _ List.mem_cons_self))
  obtain ⟨m, hm⟩ := hN
  exact ⟨m, hm _ pC.1, fun h' hsb => ⟨.ref D, _, I4.unpinned.record yC nC hsb, rfl, q D nD⟩⟩
def sComp (i : Nat) (wi : TI) (ix : List (Option Nat)) (g : TG) (tc : TT) (te : TE) : TS := fun D σ H => tCompR wi ix g tc te σ H fun ys H' => ∀ l, H' l = none → D.nx (σ.set i (some (.ref l))) (upd H' l (.lst ys))
theorem ps_comp {X : Cx} {i : Nat} {y : Str} {elt tg iter : Expr} {ifs : List Expr} {scope : Scope} {pos spos py : Pos} {Nc : List Str} {ix : List (Option Nat)} {wi : TI} {g : TG} {tc : TT} {te : TE} (hN : X.N.Nodup) (hi' : X.N[i]? = some y) (hx : Loc X.env.scope y) (hc : X.calm = true) (hok : compOk scope X.env.scope X.N Nc ix = true)
    (hi : PI X tg iter wi) (hg : ∀ cl s H C fp, PG (cxComp X Nc scope cl s H C fp) tg g) (hifs : ∀ cl s H C fp, PTs (cxComp X Nc scope cl s H C fp) ifs tc) (he : ∀ cl s H C fp, PE (cxComp X Nc scope cl s H C fp) elt te)
    (hs : ∀ x, foldedSetIterable iter X.env x = pure x := by intro _; rfl) (hsw : swapsWith (.ListComp elt [⟨tg, iter, ifs, 0⟩] scope pos) (some (.Name y py)) spos.line X.env = pure true := by rfl)
    (hf : X.fn y = true ∨ X.env.scope.names.lookup y = some .local := by first | exact .inl rfl | exact .inr rfl | assumption) : PS X (.Assign [.Name y py] (.ListComp elt [⟨tg, iter, ifs, 0⟩] scope pos) spos) (sComp i wi ix g tc te) := by
  intro pins s σ H D I h
  obtain ⟨h1, h2, h3, h4, h5, h6⟩ := compOk_all hok
  rw [exec_Assign_Name_used _ _ _ _ hsw]
  refine wpAny_bind (wpAny_standAt (wpAny_bind ?_))
  show wpAny _ X.A (do let _ ← comprehension (.ListComp elt [⟨tg, iter, ifs, 0⟩] scope pos) scope X.env _ (newList []) false (eval iter X.env) (some (assign (.Name y py) X.env))) _ _ s
  refine wpAny_bind (wpAny_mono (comp_core (Q' := fun _ s' => SP X pins D .next s') hc h1 h2 h3 h4 (fun y k e hk => relabel_of h1 e hk) h5 h6 hi hg hifs he hs I h fun Da C oC ys H3 s4 hN' nD nC yC I4 q => ?_)
    (fun _ s' hq => wpAny_pure (wpAny_pure hq)) fun _ _ e => e)
  show wpAny _ _ (assign (.Name y py) X.env (.ref Da)) _ _ s4
  refine thn (pg_name (i := i) hN hi' hx hf _ s4 σ _ (.ref Da) (.ref Da) (fun σ' H' => σ' = σ.set i (some (.ref Da)) ∧ H' = upd H3 Da (.lst ys)) I4 rfl ⟨rfl, rfl⟩) fun _ s5 ⟨σ5, H5, I5, e1, e2⟩ => ?_
  subst e1 e2
  have pC := I5.pin (C, oC) (List.mem_append_right _ (List.mem_append_right _ List.mem_cons_self))
  obtain ⟨m, hm⟩ := hN'
  exact ⟨m, hm _ pC.1, fun h' hsb => ⟨_, _, I5.unpinned.record yC nC hsb, q Da nD⟩⟩
end L2
set_option Elab.async false
set_option linter.all false
set_option maxRecDepth 100000
namespace L2
open PySem PySem.Spec PyProof.Rows
end L2
set_option Elab.async false
set_option linter.all false
set_option maxRecDepth 100000
namespace L2
open PySem PySem.Spec PyProof.Rows
inductive EqR (K : PySem.W.Frag) (H : Hp) : Nat → V → V → Bool → Prop where
  | flat {n : Nat} {x y : V} (fx : flatV x = true) (fy : flatV y = true) : EqR K H n x y (eqV x y)
  | tups {n : Nat} {a b : Addr} {xs ys : List V} {e : Nat → Bool} (ha : SqT K H a xs) (hb : SqT K H b ys) (he : ∀ j, j < xs.length → j < ys.length → EqR K H n (xs.getD j .non) (ys.getD j .non) (e j)) :
      EqR K H (n + 1) (.ref a) (.ref b) ((List.range (min xs.length ys.length)).all e && xs.length == ys.length)
  | lsts {n : Nat} {a b : Addr} {xs ys : List V} {e : Nat → Bool} (ha : SqL K H a xs) (hb : SqL K H b ys) (hl : xs.length = ys.length) (he : ∀ j, j < xs.length → EqR K H n (xs.getD j .non) (ys.getD j .non) (e j)) :
      EqR K H (n + 1) (.ref a) (.ref b) ((List.range xs.length).all e)
  | lens {n : Nat} {a b : Addr} {xs ys : List V} (ha : SqL K H a xs) (hb : SqL K H b ys) (hl : xs.length ≠ ys.length) : EqR K H (n + 1) (.ref a) (.ref b) false
theorem eqV_refl : ∀ {x : V}, flatV x = true → eqV x x = true
  | .non, _ => rfl
  | .bl b, _ => beq_self_eq_true b
  | .int i, _ => beq_self_eq_true i
  | .str s, _ => beq_self_eq_true s
section
variable {X : Cx} {pins : List (Addr × Obj)} {σ : St} {H : Hp} {s : Shared}
theorem EqR.refl (I : Inv X pins σ H s) {n : Nat} {x y : V} {b : Bool} (h : EqR X.K H n x y b) : x = y → b = true := by
  induction h with
  | flat fx fy => intro e; subst e; exact eqV_refl fx
  | @tups n a b xs ys e ha hb he ih =>
    intro z
    cases z
    have := I.tuple_inj ha hb
    subst this
    rw [beq_self_eq_true, Bool.and_true, List.all_eq_true]
    intro j hj
    have hj := List.mem_range.mp hj
    exact ih j (by omega) (by omega) rfl
  | @lsts n a b xs ys e ha hb hl he ih =>
    intro z
    cases z
    have := I.list_inj ha hb
    subst this
    rw [List.all_eq_true]
    intro j hj
    exact ih j (List.mem_range.mp hj) rfl
  | @lens n a b xs ys ha hb hl =>
    intro z
    cases z
    exact absurd (by rw [I.list_inj ha hb]) hl
theorem EqR.at (I : Inv X pins σ H s) {n : Nat} {x y : V} {b : Bool} (h : EqR X.K H n x y b) : ∀ {A : Around} {u v : Value}, RelV x u → RelV y v → A.units + n < cLine → SeqAt.EqAt A s u v b := by
  induction h with
  | flat fx fy => intro A u v ru rv _; exact eqAt_V ru rv fx fy
  | @tups n a b xs ys e ha hb he ih =>
    intro A u v ru rv hu
    cases ru
    cases rv
    by_cases hab : a = b
    · have := EqR.refl I (EqR.tups (n := n) ha hb he) (by rw [hab])
      rw [this, hab]
      exact SeqAt.EqAt.same _
    · obtain ⟨i1, r1, p1, z1⟩ := I.tuple ha
      obtain ⟨i2, r2, p2, z2⟩ := I.tuple hb
      have l1 := r1.length
      have l2 := r2.length
      have := SeqAt.RcAt.tuples (A := A) (e := e) (show s.heap.IsTuple a i1.toArray from p1) (show s.heap.IsTuple b i2.toArray from p2) (by omega) fun j h1 h2 => by
        have h1' : j < i1.length := by simpa using h1
        have h2' : j < i2.length := by simpa using h2
        have q := ih j (by omega) (by omega) (A := A.in1) (val_at r1 h1') (val_at r2 h2') (by show A.units + 1 + n < cLine; omega)
        simpa using q
      rw [List.size_toArray, List.size_toArray, ← l1, ← l2] at this
      exact SeqAt.EqAt.of_refs hab this
  | @lsts n a b xs ys e ha hb hl he ih =>
    intro A u v ru rv hu
    cases ru
    cases rv
    by_cases hab : a = b
    · have := EqR.refl I (EqR.lsts (n := n) ha hb hl he) (by rw [hab])
      rw [this, hab]
      exact SeqAt.EqAt.same _
    · obtain ⟨i1, r1, p1, z1⟩ := I.list ha
      obtain ⟨i2, r2, p2, z2⟩ := I.list hb
      have l1 := r1.length
      have l2 := r2.length
      have := SeqAt.RcAt.lists (A := A) (e := e) p1.isList p2.isList (by simp; omega) (by omega) fun j h1 h2 => by
        have h1' : j < i1.length := by simpa using h1
        have h2' : j < i2.length := by simpa using h2
        have q := ih j (by omega) (A := A.in1) (val_at r1 h1') (val_at r2 h2') (by show A.units + 1 + n < cLine; omega)
        simpa using q
      rw [List.size_toArray, ← l1] at this
      exact SeqAt.EqAt.of_refs hab this
  | @lens n a b xs ys ha hb hl =>
    intro A u v ru rv hu
    cases ru
    cases rv
    obtain ⟨i1, r1, p1, z1⟩ := I.list ha
    obtain ⟨i2, r2, p2, z2⟩ := I.list hb
    have l1 := r1.length
    have l2 := r2.length
    have hab : a ≠ b := fun z => by subst z; exact hl (by rw [I.list_inj ha hb])
    exact SeqAt.EqAt.of_refs hab (SeqAt.RcAt.lists_lengths p1.isList p2.isList (by simp; omega) (by omega))
def rEqR (K : PySem.W.Frag) (neg : Bool) : R2 := fun x y H Q => ∃ (a c : Addr) (n : Nat) (b : Bool), x = .ref a ∧ y = .ref c ∧ EqR K H n x y b ∧ n ≤ 50 ∧ Q (.bl (if neg then !b else b)) H
theorem op_neR (hu : X.A.units + 64 < cLine) : OpR X (compareOp .NotEq) (rEqR X.K true) := by
  intro pins s σ H x y v u Q I rx ry h
  obtain ⟨a, c, n, b, rfl, rfl, e, hn, q⟩ := h
  cases rx
  cases ry
  have fin : ∀ {k : Bool}, k = b → EP X pins σ Q (.bool (!k)) s := fun z => ⟨.bl (!b), H, I, by rw [z]; rfl, q⟩
  cases e with
  | flat fx fy => exact absurd (show false = true from fx) Bool.false_ne_true
  | @tups n _ _ xs ys e ha hb he =>
    obtain ⟨i1, r1, p1, z1⟩ := I.tuple ha
    obtain ⟨i2, r2, p2, z2⟩ := I.tuple hb
    have l1 := r1.length
    have l2 := r2.length
    refine SeqAt.RcNeAt.tuples (e := e) (show s.heap.IsTuple a i1.toArray from p1) (show s.heap.IsTuple c i2.toArray from p2) (by omega) (fun j h1 h2 => ?_) _ _ _ _ (fin ?_)
    · have h1' : j < i1.length := by simpa using h1
      have h2' : j < i2.length := by simpa using h2
      have q := (he j (by omega) (by omega)).at I (A := X.A.in1) (val_at r1 h1') (val_at r2 h2') (by show X.A.units + 1 + n < cLine; omega)
      simpa using q
    · rw [List.size_toArray, List.size_toArray, ← l1, ← l2]
  | @lsts n _ _ xs ys e ha hb hl he =>
    obtain ⟨i1, r1, p1, z1⟩ := I.list ha
    obtain ⟨i2, r2, p2, z2⟩ := I.list hb
    have l1 := r1.length
    have l2 := r2.length
    refine SeqAt.RcNeAt.lists (e := e) p1.isList p2.isList (by simp; omega) (by omega) (fun j h1 h2 => ?_) _ _ _ _ (fin ?_)
    · have h1' : j < i1.length := by simpa using h1
      have h2' : j < i2.length := by simpa using h2
      have q := (he j (by omega)).at I (A := X.A.in1) (val_at r1 h1') (val_at r2 h2') (by show X.A.units + 1 + n < cLine; omega)
      simpa using q
    · rw [List.size_toArray, ← l1]
  | @lens n _ _ xs ys ha hb hl =>
    obtain ⟨i1, r1, p1, z1⟩ := I.list ha
    obtain ⟨i2, r2, p2, z2⟩ := I.list hb
    have l1 := r1.length
    have l2 := r2.length
    exact SeqAt.RcNeAt.lists_lengths p1.isList p2.isList (by simp; omega) (by omega) _ _ _ _ (fin (k := false) rfl)
end
end L2
set_option Elab.async false
set_option linter.all false
set_option maxRecDepth 100000
namespace L2
open PySem PySem.Spec PyProof.Rows
end L2
set_option Elab.async false
set_option linter.all false
set_option maxRecDepth 100000
namespace L2
open PySem PySem.Spec PyProof.Rows PySem.W
end L2
set_option Elab.async false
set_option linter.all false
set_option maxRecDepth 100000
namespace L2
open PySem PySem.Spec PyProof.Rows
section
variable {g : TG} {tc : TT} {te : TE} {σ0 : St} {H0 : Hp} {R : List V → Hp → Prop} {K : PySem.W.Frag} {a : Addr} {xs : List V}
theorem cmp_gen {J : It} {n : Nat} (Pv : Nat → List V → St → Hp → Prop) (h0 : Pv 0 [] σ0 H0) (hz : ∀ i ys σ H, i ≤ n → Pv i ys σ H → ys.length ≤ sizeLine) (hst : ∀ ys σ H, Pv n ys σ H → J.stop n H ∧ R ys H)
    (hgo : ∀ i ys σ H, i < n → Pv i ys σ H → J.go i H ∧ ∀ x H2, J.yld i H x H2 → g x σ H2 fun σ2 H3 => tc σ2 H3 fun b H4 => if b = true then te σ2 H4 fun y H5 => Pv (i + 1) (ys ++ [y]) σ2 H5 else Pv (i + 1) ys σ2 H4) :
    ∃ W : Nat → Nat → List V → St → Hp → Prop, (∃ m, W 0 m [] σ0 H0) ∧ ∀ i m ys σ' H', W i m ys σ' H' →
      (J.stop i H' ∧ ys.length ≤ sizeLine ∧ R ys H') ∨
      (J.go i H' ∧ ys.length ≤ sizeLine ∧ ∃ N : List V → St → Hp → Prop, (∀ ys' σ2 H2, N ys' σ2 H2 → ∃ m', m' < m ∧ W (i + 1) m' ys' σ2 H2) ∧
        ∀ x H2, J.yld i H' x H2 → g x σ' H2 fun σ2 H3 => tc σ2 H3 fun b H4 => if b = true then te σ2 H4 fun y H5 => N (ys ++ [y]) σ2 H5 else N ys σ2 H4) := by
  refine ⟨fun i m ys σ H => m = n - i ∧ i ≤ n ∧ Pv i ys σ H, ⟨n, by simp, Nat.zero_le _, h0⟩, ?_⟩
  rintro i m ys σ H ⟨rfl, hi, p⟩
  by_cases hlt : i < n
  · obtain ⟨go, turn⟩ := hgo i ys σ H hlt p
    exact .inr ⟨go, hz i ys σ H hi p, Pv (i + 1), fun ys' σ' H' p' => ⟨n - (i + 1), by omega, rfl, hlt, p'⟩, turn⟩
  · have e : i = n := by omega
    subst e
    obtain ⟨st, r⟩ := hst ys σ H p
    exact .inl ⟨st, hz i ys σ H hi p, r⟩
theorem cmp_range {lo : Int} {n : Nat} (Pv : Nat → List V → St → Hp → Prop) (h0 : Pv 0 [] σ0 H0) (hz : ∀ i ys σ H, i ≤ n → Pv i ys σ H → ys.length ≤ sizeLine) (hst : ∀ ys σ H, Pv n ys σ H → R ys H)
    (hgo : ∀ i ys σ H, i < n → Pv i ys σ H → g (.int (lo + i)) σ H fun σ2 H3 => tc σ2 H3 fun b H4 => if b = true then te σ2 H4 fun y H5 => Pv (i + 1) (ys ++ [y]) σ2 H5 else Pv (i + 1) ys σ2 H4) :
    ∃ W : Nat → Nat → List V → St → Hp → Prop, (∃ m, W 0 m [] σ0 H0) ∧ ∀ i m ys σ' H', W i m ys σ' H' →
      ((Itr lo n).stop i H' ∧ ys.length ≤ sizeLine ∧ R ys H') ∨
      ((Itr lo n).go i H' ∧ ys.length ≤ sizeLine ∧ ∃ N : List V → St → Hp → Prop, (∀ ys' σ2 H2, N ys' σ2 H2 → ∃ m', m' < m ∧ W (i + 1) m' ys' σ2 H2) ∧
        ∀ x H2, (Itr lo n).yld i H' x H2 → g x σ' H2 fun σ2 H3 => tc σ2 H3 fun b H4 => if b = true then te σ2 H4 fun y H5 => N (ys ++ [y]) σ2 H5 else N ys σ2 H4) :=
  cmp_gen (n := n) Pv h0 hz (fun ys σ H p => ⟨Nat.le_refl _, hst ys σ H p⟩) fun i ys σ H hi p => ⟨hi, fun x H2 y => by
    obtain ⟨e, y⟩ := y
    subst e y
    exact hgo i ys σ _ hi p⟩
theorem cmp_enumT (Pv : Nat → List V → St → Hp → Prop) (h0 : Pv 0 [] σ0 H0) (hz : ∀ i ys σ H, i ≤ xs.length → Pv i ys σ H → ys.length ≤ sizeLine ∧ SqT K H a xs) (hst : ∀ ys σ H, Pv xs.length ys σ H → R ys H)
    (hgo : ∀ i x ys σ H p, xs[i]? = some x → Pv i ys σ H → H p = none → g (.ref p) σ (upd H p (.tup [.int i, x])) fun σ2 H3 => tc σ2 H3 fun b H4 => if b = true then te σ2 H4 fun y H5 => Pv (i + 1) (ys ++ [y]) σ2 H5 else Pv (i + 1) ys σ2 H4) :
    ∃ W : Nat → Nat → List V → St → Hp → Prop, (∃ m, W 0 m [] σ0 H0) ∧ ∀ i m ys σ' H', W i m ys σ' H' →
      ((Ite K a).stop i H' ∧ ys.length ≤ sizeLine ∧ R ys H') ∨
      ((Ite K a).go i H' ∧ ys.length ≤ sizeLine ∧ ∃ N : List V → St → Hp → Prop, (∀ ys' σ2 H2, N ys' σ2 H2 → ∃ m', m' < m ∧ W (i + 1) m' ys' σ2 H2) ∧
        ∀ x H2, (Ite K a).yld i H' x H2 → g x σ' H2 fun σ2 H3 => tc σ2 H3 fun b H4 => if b = true then te σ2 H4 fun y H5 => N (ys ++ [y]) σ2 H5 else N ys σ2 H4) :=
  cmp_gen (n := xs.length) Pv h0 (fun i ys σ H hi p => (hz i ys σ H hi p).1) (fun ys σ H p => ⟨⟨xs, (hz _ ys σ H (Nat.le_refl _) p).2, Nat.le_refl _⟩, hst ys σ H p⟩)
    fun i ys σ H hi p => ⟨⟨xs, xs[i], (hz i ys σ H (Nat.le_of_lt hi) p).2, by simp [hi]⟩, fun x H2 y => by
      obtain ⟨pp, v, hn, e1, e2, y⟩ := y
      subst e1 e2
      exact hgo i v ys σ _ pp (y xs (hz i ys σ _ (Nat.le_of_lt hi) p).2) p hn⟩
end
end L2
set_option Elab.async false
set_option linter.all false
set_option maxRecDepth 100000
namespace L2
open PySem PySem.Spec PyProof.Rows PySem.W
end L2
set_option Elab.async false
set_option linter.all false
set_option maxRecDepth 100000
namespace L2
open PySem PySem.Spec PyProof.Rows PySem.W
end L2
set_option Elab.async false
set_option linter.all false
set_option maxRecDepth 100000
namespace L2
open PySem PySem.Spec PyProof.Rows PySem.W
section
variable {X : Cx} {K : Frag}
theorem pg_tupK {es : List Expr} {k : Nat} {t : TGs} {n : Nat} {pos : Pos} (hK : X.K = K) (hc : X.calm = true) (h : PGs X es t)
    (hn : (assignEach es X.env).length = n := by rfl) (hs : (assignEach es X.env).findIdx? (·.1) = none := by rfl) : PG X (.Tuple es k pos) (gTup K n t) := by
  subst hK
  exact pg_tup hc h hn hs
end
end L2
set_option Elab.async false
set_option linter.all false
set_option maxRecDepth 100000
set_option maxHeartbeats 4000000
namespace L2
open PySem PySem.Spec PyProof.Rows
end L2
set_option Elab.async false
set_option linter.all false
set_option maxRecDepth 100000
namespace L2
open PySem PySem.Spec PyProof.Rows
end L2
set_option Elab.async false
set_option linter.all false
namespace Lin
end Lin
set_option Elab.async false
set_option linter.all false
set_option maxRecDepth 100000
namespace L2
open PySem PySem.Spec PyProof.Rows PySem.W
section
variable {σ : St} {H : Hp} {ta tb : TE}
theorem tst_andL {t u : TT} {p q : Prop} [Decidable p] [Decidable q] (a : Tst t σ H p) (b : p → Tst u σ H q) : Tst (tAnd t u) σ H (p ∧ q) := fun Q z => a _ (by
  by_cases h : p
  · rw [decide_eq_true h, if_pos rfl]
    refine b h _ ?_
    have e : decide (p ∧ q) = decide q := by rw [decide_eq_decide]; exact ⟨fun z => z.2, fun z => ⟨h, z⟩⟩
    rw [← e]; exact z
  · rw [decide_eq_false h, if_neg Bool.false_ne_true]
    have e : decide (p ∧ q) = false := decide_eq_false fun z => h z.1
    rw [← e]; exact z)
end
end L2
set_option Elab.async false
set_option linter.all false
set_option maxRecDepth 100000
namespace L2
open PySem PySem.Spec PyProof.Rows
end L2
set_option Elab.async false
set_option linter.all false
set_option maxRecDepth 100000
namespace L2
open PySem PySem.Spec PyProof.Rows
end L2
set_option Elab.async false
set_option linter.all false
set_option maxRecDepth 100000
namespace L2
open PySem PySem.Spec PyProof.Rows PySem.W
end L2
set_option Elab.async false
set_option linter.all false
set_option maxRecDepth 100000
namespace L2
open PySem PySem.Spec PyProof.Rows PySem.W
end L2
set_option Elab.async false
set_option linter.all false
set_option maxRecDepth 100000
namespace L2
open PySem PySem.Spec PyProof.Rows PySem.W
def lx : List Int → List Int → Bool
  | c :: r, d :: s => decide (c < d) || (decide (c = d) && lx r s)
  | _, _ => false
def lexA (B : Int) : Int → List Int → Int
  | a, [] => a
  | a, c :: r => lexA B (a * B + c) r
theorem lexA_lt {B : Int} : ∀ (z z' : List Int) (a a' : Int), z.length = z'.length → (∀ c ∈ z, 0 ≤ c ∧ c < B) → (∀ c ∈ z', 0 ≤ c ∧ c < B) → (lexA B a z < lexA B a' z' ↔ a < a' ∨ (a = a' ∧ lx z z' = true))
  | [], [], a, a', _, _, _ => by simp [lexA, lx]
  | [], _ :: _, _, _, h, _, _ => by simp at h
  | _ :: _, [], _, _, h, _, _ => by simp at h
  | c :: r, d :: s, a, a', hl, h1, h2 => by
    have ih := lexA_lt r s (a * B + c) (a' * B + d) (by simpa using hl) (fun x hx => h1 x (List.mem_cons_of_mem _ hx)) (fun x hx => h2 x (List.mem_cons_of_mem _ hx))
    have k1 := lex_lt (a := a) (c := a') (h1 c List.mem_cons_self) (h2 d List.mem_cons_self)
    have k2 := lex_lt (a := a') (c := a) (h2 d List.mem_cons_self) (h1 c List.mem_cons_self)
    show lexA B (a * B + c) r < lexA B (a' * B + d) s ↔ a < a' ∨ (a = a' ∧ (decide (c < d) || (decide (c = d) && lx r s)) = true)
    rw [ih, Bool.or_eq_true, Bool.and_eq_true, decide_eq_true_eq, decide_eq_true_eq]
    clear ih
    generalize a * B + c = u at k1 k2 ⊢
    generalize a' * B + d = v at k1 k2 ⊢
    by_cases q : lx r s = true
    · simp only [q, and_true]
      omega
    · rw [eq_false q]
      simp only [and_false, or_false]
      exact k1
def lexK (B M : Int) : List Int → Int
  | [] => 0
  | c :: r => lexA B c (r.map (· + M))
theorem lx_shift (M : Int) : ∀ z z' : List Int, lx (z.map (· + M)) (z'.map (· + M)) = lx z z'
  | c :: r, d :: s => by
    show (decide (c + M < d + M) || (decide (c + M = d + M) && lx (r.map (· + M)) (s.map (· + M)))) = _
    rw [lx_shift M r s, decide_eq_decide.mpr (show c + M < d + M ↔ c < d by omega), decide_eq_decide.mpr (show c + M = d + M ↔ c = d by omega)]
    rfl
  | [], [] => rfl
  | [], _ :: _ => rfl
  | _ :: _, [] => rfl
theorem lexK_lt {M : Int} {z z' : List Int} (hl : z.length = z'.length) (h0 : 0 < z.length) (h1 : ∀ c ∈ z, -M ≤ c ∧ c < M) (h2 : ∀ c ∈ z', -M ≤ c ∧ c < M) : decide (lexK (2 * M) M z < lexK (2 * M) M z') = lx z z' := by
  match z, z', hl, h0 with
  | c :: r, d :: s, hl, _ =>
    have b : ∀ {w : List Int} {e : Int}, (∀ x ∈ e :: w, -M ≤ x ∧ x < M) → ∀ x ∈ w.map (· + M), 0 ≤ x ∧ x < 2 * M := fun {w e} h x hx => by
      obtain ⟨y, hy, rfl⟩ := List.mem_map.mp hx
      have := h y (List.mem_cons_of_mem _ hy)
      omega
    have k := lexA_lt (B := 2 * M) (r.map (· + M)) (s.map (· + M)) c d (by simpa using hl) (b h1) (b h2)
    rw [lx_shift] at k
    rw [Bool.eq_iff_iff, decide_eq_true_eq]
    show lexA (2 * M) c (r.map (· + M)) < lexA (2 * M) d (s.map (· + M)) ↔ (decide (c < d) || (decide (c = d) && lx r s)) = true
    rw [k, Bool.or_eq_true, Bool.and_eq_true, decide_eq_true_eq, decide_eq_true_eq]
theorem bound_all : ∀ zs : List (List Int), ∃ M : Int, ∀ z ∈ zs, ∀ c ∈ z, -M ≤ c ∧ c < M := by
  have one : ∀ z : List Int, ∃ M : Int, 0 ≤ M ∧ ∀ c ∈ z, -M ≤ c ∧ c < M := by
    intro z
    induction z with
    | nil => exact ⟨0, Int.le_refl _, fun c h => nomatch h⟩
    | cons d z ih =>
      obtain ⟨M, h0, h⟩ := ih
      refine ⟨M + d.natAbs + 1, by omega, fun c hc => ?_⟩
      rcases List.mem_cons.mp hc with rfl | hc
      · omega
      · have := h c hc
        omega
  intro zs
  have : ∃ M : Int, 0 ≤ M ∧ ∀ z ∈ zs, ∀ c ∈ z, -M ≤ c ∧ c < M := by
    induction zs with
    | nil => exact ⟨0, Int.le_refl _, fun z h => nomatch h⟩
    | cons d z ih =>
      obtain ⟨M, h0, h⟩ := ih
      obtain ⟨L, l0, l⟩ := one d
      refine ⟨M + L, by omega, fun z hz c hc => ?_⟩
      rcases List.mem_cons.mp hz with rfl | hz
      · have := l c hc
        omega
      · have := h z hz c hc
        omega
  obtain ⟨M, _, h⟩ := this
  exact ⟨M, h⟩
def IvAt (H : Hp) (v : V) (z : List Int) : Prop := ∃ p, v = .ref p ∧ H p = some (.tup (z.map V.int))
def IvsAt (H : Hp) : List V → List (List Int) → Prop := Paired (IvAt H)
theorem IvAt.same {H H' : Hp} (S : Same H H') {v : V} {z : List Int} (h : IvAt H v z) : IvAt H' v z := let ⟨p, e, q⟩ := h; ⟨p, e, S _ _ q⟩
theorem IvsAt.same {H H' : Hp} (S : Same H H') {vs : List V} {zs : List (List Int)} (h : IvsAt H vs zs) : IvsAt H' vs zs := Paired.imp' (fun _ _ => IvAt.same S) h
theorem IvsAt.len {H : Hp} {vs : List V} {zs : List (List Int)} (h : IvsAt H vs zs) : vs.length = zs.length := Paired.length h
theorem paired_get {α β : Type} {F : α → β → Prop} : ∀ {xs : List α} {ys : List β} {i : Nat} {y : β}, Paired F xs ys → ys[i]? = some y → ∃ x, xs[i]? = some x ∧ F x y
  | _, _, _, _, .nil, e => by simp at e
  | _, _, 0, _, .cons r _, e => by simp at e; subst e; exact ⟨_, rfl, r⟩
  | _, _, i + 1, y, .cons _ t, e => by
    obtain ⟨v, h1, h2⟩ := paired_get (i := i) (y := y) t (by simpa using e)
    exact ⟨v, by simpa using h1, h2⟩
theorem paired_get' {α β : Type} {F : α → β → Prop} : ∀ {xs : List α} {ys : List β} {i : Nat} {x : α}, Paired F xs ys → xs[i]? = some x → ∃ y, ys[i]? = some y ∧ F x y
  | _, _, _, _, .nil, e => by simp at e
  | _, _, 0, _, .cons r _, e => by simp at e; subst e; exact ⟨_, rfl, r⟩
  | _, _, i + 1, x, .cons _ t, e => by
    obtain ⟨v, h1, h2⟩ := paired_get' (i := i) (x := x) t (by simpa using e)
    exact ⟨v, by simpa using h1, h2⟩
theorem paired_pick {α β : Type} {F : α → β → Prop} {xs : List α} {ys : List β} {dx : α} {dy : β} (h : Paired F xs ys) : ∀ (ls : List Nat), (∀ i ∈ ls, i < ys.length) → Paired F (ls.map fun i => xs.getD i dx) (ls.map fun i => ys.getD i dy)
  | [], _ => .nil
  | i :: ls, hl => by
    have hi := hl i List.mem_cons_self
    obtain ⟨v, e, r⟩ := paired_get h (List.getElem?_eq_getElem hi)
    refine .cons ?_ (paired_pick h ls fun j hj => hl j (List.mem_cons_of_mem _ hj))
    have e1 : xs.getD i dx = v := by rw [List.getD_eq_getElem?_getD, e]; rfl
    show F (xs.getD i dx) (ys.getD i dy)
    rw [e1, L2.getD_at hi]
    exact r
theorem ord_perm {α : Type} {d : α} {p : Array Nat} {xs : List α} (o : Srt.Ord xs.length p) : (p.toList.map fun i => xs.getD i d).Perm xs := by
  have h : p.toList.Perm (List.range xs.length) := by
    have := Array.perm_iff_toList_perm.mp o.pm
    simpa using this
  have h2 := h.map fun i => xs.getD i d
  have e : (List.range xs.length).map (fun i => xs.getD i d) = xs := by
    refine List.ext_getElem (by simp) fun i h1 h2 => ?_
    rw [List.getElem_map, List.getElem_range, L2.getD_at h2]
  rw [e] at h2
  exact h2
theorem ord_sorted {zs : List (List Int)} {p : Array Nat} {M : Int} {m : Nat} (o : Srt.Ord zs.length p) (hB : ∀ z ∈ zs, ∀ c ∈ z, -M ≤ c ∧ c < M) (hm : ∀ z ∈ zs, z.length = m + 1)
    (u : Srt.Up (fun i => lexK (2 * M) M (zs.getD i [])) p zs.length) : (p.toList.map fun i => zs.getD i []).Pairwise fun a b => lx b a = false := by
  rw [List.pairwise_iff_getElem]
  intro i j hi hj hij
  have lz : p.size = zs.length := o.sz
  rw [List.length_map, Array.length_toList, lz] at hi hj
  have key : ∀ k, (hk : k < zs.length) → ∃ z, z ∈ zs ∧ (∀ h, (p.toList.map fun i => zs.getD i [])[k]'h = z) ∧ Srt.kv (fun i => lexK (2 * M) M (zs.getD i [])) p k = lexK (2 * M) M z := by
    intro k hk
    have hk' : p.getD k 0 < zs.length := o.lt hk
    refine ⟨zs[p.getD k 0], List.getElem_mem _, fun h => ?_, ?_⟩
    · have e : p.toList[k]'(by rw [Array.length_toList, lz]; exact hk) = p.getD k 0 := by simp [Array.getD, lz, hk]
      rw [List.getElem_map, e, L2.getD_at hk']
    · unfold Srt.kv
      dsimp only
      rw [L2.getD_at hk']
  obtain ⟨a, ma, ea, ka⟩ := key i hi
  obtain ⟨b, mb, eb, kb⟩ := key j hj
  rw [ea, eb]
  have le := u.le (i := i) (j := j) (by omega) (by omega)
  rw [ka, kb] at le
  have l1 := hm a ma
  have l2 := hm b mb
  rw [← lexK_lt (by omega) (by omega) (hB b mb) (hB a ma)]
  exact decide_eq_false (by omega)
theorem kat_ints {prog : Program} {w : World} {A : Around} {Q : Bool → Shared → Prop} {s : Shared} : ∀ (z z' : List Int) (us us' : List Value) (i : Nat), Vals (z.map V.int) us → Vals (z'.map V.int) us' → z.length = z'.length → Q (lx z z') s → KatLex prog w A true false Q (us.zip us') i s
  | [], [], _, _, i, .nil, .nil, _, q => kat_nil q
  | [], _ :: _, _, _, _, _, _, h, _ => by simp at h
  | _ :: _, [], _, _, _, _, _, h, _ => by simp at h
  | c :: r, d :: t, _, _, i, .cons (l₂ := us) r1 rr, .cons (l₂ := us') r2 rr2, h, q => by
    obtain ⟨t1, rfl⟩ := r1
    obtain ⟨t2, rfl⟩ := r2
    refine kat_cons (wpAny_eqBool_int ?_)
    have e0 : lx (c :: r) (d :: t) = (decide (c < d) || (decide (c = d) && lx r t)) := rfl
    rw [e0] at q
    by_cases e : c = d
    · rw [beq_iff_eq.mpr e]
      rw [decide_eq_false (by omega : ¬ c < d), decide_eq_true e, Bool.false_or, Bool.true_and] at q
      exact kat_yes (kat_ints r t us us' (i + 1) rr rr2 (by simpa using h) q)
    · rw [beq_eq_false_iff_ne.mpr e]
      rw [decide_eq_false e, Bool.false_and, Bool.or_false] at q
      refine kat_no ?_
      cases i with
      | zero => exact oneLt_int q
      | succ i => exact kat_one _ _ (lt_int q)
end L2
namespace Til
end Til
namespace Til
def lap (b c : Bx) : Bool := (decide (b.l < c.r) && decide (c.l < b.r)) && (decide (b.t < c.b) && decide (c.t < b.b))
theorem tiles_nolap {bs : List Bx} {n m : Int} (T : Tiles bs n m) : bs.Pairwise (fun b c => lap b c = false) := by
  rw [List.pairwise_iff_getElem]
  intro i j hi hj hij
  have ap := T.apart (List.getElem?_eq_getElem hi) (List.getElem?_eq_getElem hj) (by omega)
  rw [Bool.eq_false_iff]
  intro z
  unfold lap at z
  simp only [Bool.and_eq_true, decide_eq_true_eq] at z
  omega
end Til
namespace Til
def idx (cs : List Bx) (x y : Int) : Nat := cs.findIdx (inB · x y)
theorem idx_of {cs : List Bx} {n m : Int} (T : Tiles cs n m) {x y : Int} {k : Nat} {b : Bx} (h1 : 0 ≤ x) (h2 : x < n) (h3 : 0 ≤ y) (h4 : y < m) (e : cs[k]? = some b) (hin : inB b x y = true) : idx cs x y = k := by
  obtain ⟨k0, b0, e0, in0, uni⟩ := tiles_find T h1 h2 h3 h4
  have hk := uni k b e hin
  subst hk
  rw [e] at e0
  cases e0
  unfold idx
  obtain ⟨hl, eb⟩ := List.getElem?_eq_some_iff.mp e
  rw [List.findIdx_eq (by exact hl)]
  refine ⟨by rw [eb]; exact hin, fun j hj => ?_⟩
  rw [Bool.eq_false_iff]
  intro z
  have := uni j cs[j] (List.getElem?_eq_getElem (by omega)) z
  omega
theorem idx_in {cs : List Bx} {n m : Int} (T : Tiles cs n m) {x y : Int} (h1 : 0 ≤ x) (h2 : x < n) (h3 : 0 ≤ y) (h4 : y < m) : ∃ b, cs[idx cs x y]? = some b ∧ inB b x y = true := by
  obtain ⟨k0, b0, e0, in0, uni⟩ := tiles_find T h1 h2 h3 h4
  rw [idx_of T h1 h2 h3 h4 e0 in0]
  exact ⟨b0, e0, in0⟩
end Til
set_option linter.all false
namespace Til
end Til
set_option linter.all false
namespace Til
def flp (b : Bx) : Bx := ⟨b.t, b.l, b.b, b.r⟩
theorem inB_flp (b : Bx) (x y : Int) : inB (flp b) y x = inB b x y := by
  rw [Bool.eq_iff_iff, inB_iff, inB_iff]
  show b.t ≤ y ∧ y < b.b ∧ b.l ≤ x ∧ x < b.r ↔ _
  constructor
  · rintro ⟨a, b, c, d⟩; exact ⟨c, d, a, b⟩
  · rintro ⟨a, b, c, d⟩; exact ⟨c, d, a, b⟩
theorem cnt_flp : ∀ (bs : List Bx) (x y : Int), cnt (bs.map flp) y x = cnt bs x y
  | [], _, _ => rfl
  | b :: bs, x, y => by rw [List.map_cons, cnt_cons, cnt_cons, cnt_flp bs x y, inB_flp]
theorem tiles_flp {bs : List Bx} {n m : Int} (T : Tiles bs n m) : Tiles (bs.map flp) m n := by
  refine ⟨fun c hc => ?_, fun x y h1 h2 h3 h4 => ?_⟩
  · obtain ⟨b, hb, rfl⟩ := List.mem_map.mp hc
    obtain ⟨o1, o2, o3, o4, o5, o6⟩ := T.wf b hb
    exact ⟨o4, o5, o6, o1, o2, o3⟩
  · rw [cnt_flp]
    exact T.one y x h3 h4 h1 h2
theorem idx_flp : ∀ (bs : List Bx) (x y : Int), idx (bs.map flp) y x = idx bs x y := by
  intro bs x y
  unfold idx
  induction bs with
  | nil => rfl
  | cons b bs ih =>
    rw [List.map_cons, List.findIdx_cons, List.findIdx_cons, inB_flp, ih]
theorem idx_lt {bs : List Bx} {n m : Int} (T : Tiles bs n m) {x y : Int} (h1 : 0 ≤ x) (h2 : x < n) (h3 : 0 ≤ y) (h4 : y < m) : idx bs x y < bs.length := by
  obtain ⟨k, b, e, hin, _⟩ := tiles_find T h1 h2 h3 h4
  rw [idx_of T h1 h2 h3 h4 e hin]
  exact (List.getElem?_eq_some_iff.mp e).1
end Til
set_option linter.all false
namespace Til
end Til
set_option linter.all false
namespace Til
end Til
set_option Elab.async false
set_option linter.all false
set_option maxRecDepth 100000
namespace PySem
open AutoSeq1
end PySem
namespace L2
open PySem PySem.Spec PyProof.Rows
end L2
set_option Elab.async false
set_option linter.all false
set_option maxRecDepth 100000
set_option maxHeartbeats 1000000
namespace L2
open PySem PySem.Spec PyProof.Rows PySem.W
end L2
set_option Elab.async false
set_option linter.all false
set_option maxRecDepth 100000
namespace L2
open PySem PySem.Spec PyProof.Rows PySem.W
end L2
set_option Elab.async false
set_option linter.all false
set_option maxRecDepth 100000
namespace L2
open PySem PySem.Spec PyProof.Rows PySem.W
end L2
set_option Elab.async false
set_option linter.all false
set_option maxRecDepth 100000
namespace L2
open PySem PySem.Spec PyProof.Rows PySem.W
open AutoSeq1 (wpAny_loadPart')
open SeqAt (EqAt)
section
variable {X : Cx}
def tCallV (i : Nat) (f : Addr) (sp : Sp) (dvs : List V) (E : XK) (t : TA) : TE := fun σ H Q => σ[i]? = some (some (.ref f)) ∧ tCall sp dvs E t σ H Q
theorem pe_callV {CX : CXT} {k i : Nat} {f : Addr} {fd : FuncData} {ps : List Str} {sp : Sp} {ds : List Value} {dvs : List V} {E : XK} {x : Str} {e : Expr} {es : List Expr} {t : TA} {p pos : Pos} (F : FnOk X.prog X.w X.K X.mg X.base CX k f fd ps sp) (hr : Room k X.A) (hN : X.N[i]? = some x) (hv : Vis X.env.scope x) (hk : PySem.W.keepIn X.K (.ref f) = true) (hb : Binds X.K fd ps ds) (hd : Vals dvs ds) (hx : Passes CX X E)
    (ha : PA X (e :: es) t) (hdb : (x == ("__debug__" : Str)) = false := by decide) (hcd : (x == ("__classdict__" : Str)) = false := by decide) (he : starEach (e :: es) X.env = (false, eval e X.env) :: starEach es X.env := by rfl) (hpl : (backTo pos (starEach es X.env)).any (·.1) = false := by rfl) :
    PE X (.Call (.Name x p) (e :: es) [] pos) (tCallV i f sp dvs E t) := by
  intro pins s σ H Q I h
  obtain ⟨hi, h⟩ := h
  refine wpAny_Call_Name_kw (thn (pe_var (pos := p) hN hv hdb hcd pins s σ H (fun v H1 => v = .ref f ∧ H1 = H) I ⟨_, hi, rfl, rfl⟩) fun u s1 z => ?_)
  obtain ⟨v, H1, I1, r, rfl, rfl⟩ := z
  cases r
  refine PySem.W.callWith_K (h₀ := X.base) I1.ok.mod.kin hk (thn (ha pos pins s1 σ H1 _ I1 h) fun us s2 ⟨vs, H2, I2, r2, q⟩ => ⟨I2.kIn, ?_⟩) he hpl
  exact run_fn F hr hb hd hx I2 r2 q
end
end L2
set_option Elab.async false
set_option linter.all false
set_option maxRecDepth 100000
namespace L2
open PySem PySem.Spec PyProof.Rows PySem.W
def TpF (H : Hp) (a : Addr) (xs : List V) : Prop := ∃ o : Obj, H a = some (.frz o (.tup xs)) ∧ o.cls = .type "tuple" ∧ o.dict = none
theorem TpF.same {H H' : Hp} (S : Same H H') {a : Addr} {xs : List V} (h : TpF H a xs) : TpF H' a xs := let ⟨o, e, r⟩ := h; ⟨o, S _ _ e, r⟩
theorem TpF.sq {K : PySem.W.Frag} {H : Hp} {a : Addr} {xs : List V} (h : TpF H a xs) : SqT K H a xs := let ⟨o, e, _⟩ := h; .inl (.inr ⟨o, e⟩)
theorem TpF.new {H : Hp} {a : Addr} {o : Obj} {xs : List V} (c : o.cls = .type "tuple") (d : o.dict = none) : TpF (upd H a (.frz o (.tup xs))) a xs := ⟨o, upd_same, c, d⟩
section
variable {X : Cx}
theorem call_tuple_fz : CallR X (.type "tuple") (fun xs H Q => ∃ p ys, xs = [.ref p] ∧ SqL X.K H p ys ∧ ∀ (l : Addr) (o : Obj), H l = none → o.cls = .type "tuple" → o.dict = none → Q (.ref l) (upd H l (.frz o (.tup ys)))) := by
  intro pins s σ H xs us Q I r h
  obtain ⟨p, ys, rfl, hq, q⟩ := h
  obtain ⟨u, rfl, rx⟩ := vals1 r
  cases rx
  obtain ⟨its, r', pl, hz⟩ := I.list hq
  have hlen := r'.length
  refine call_tuple_list pl.isList (fun h' kp => ?_) (by simp only [List.size_toArray] <;> omega)
  have I1 : Inv X pins σ H { s with heap := h' } := I.kept (t' := s.toks) kp
  have I2 : Inv X pins σ (upd H h'.objs.size (.frz { cls := .type "tuple", data := .seq its.toArray } (.tup ys))) { s with heap := h'.push { cls := .type "tuple", data := .seq its.toArray } } :=
    I1.laid (t' := s.toks) (fun b o e => Heap.get?_push_of_some _ e) (Nat.le_refl _) (show ObjOk X.prog X.w _ _ _ (.frz _ (.tup ys)) from ⟨Heap.get?_push_size _ rfl, hz, its, r', IsTup.new _ _⟩)
  exact ⟨.ref h'.objs.size, _, I2, rfl, q _ _ (I1.hok.fresh (Nat.le_refl _)) rfl rfl⟩
end
end L2
set_option Elab.async false
set_option linter.all false
set_option maxRecDepth 100000
set_option maxHeartbeats 1000000
namespace L2
open PySem
def GI (mg : Str → Option Value) (x : Str) (n : Int) : Prop := ∃ t, mg x = some (.int n t)
theorem pe_gi {X : Cx} {x : Str} {n : Int} {pos : Pos} (hg : Gl X x) (h : GI X.mg x n) (hd : (x == ("__debug__" : Str)) = false := by decide) : PE X (.Name x pos) (tC (.int n)) := by
  obtain ⟨t, h⟩ := h
  exact pe_glob hg h ⟨t, rfl⟩ hd
end L2
namespace KO
open PySem L2 Til
def PageAt (H : Hp) (pg : Addr) (wd hg : Int) (bs : List Bx) : Prop := ∃ tb us, H pg = some (.tup [.int wd, .int hg, .ref tb]) ∧ TpF H tb us ∧ BoxesAt H us bs ∧ bs.length ≤ 24
theorem PageAt.same {H H' : Hp} (S : Same H H') {pg : Addr} {wd hg : Int} {bs : List Bx} (h : PageAt H pg wd hg bs) : PageAt H' pg wd hg bs :=
  let ⟨tb, us, a, b, c, d⟩ := h; ⟨tb, us, S _ _ a, b.same S, c.same S, d⟩
theorem ixN_nat {n i : Nat} (h : i < n) : ixN n (i : Int) = some i := by
  unfold ixN
  rw [if_pos (by omega), if_pos (by omega)]
  rfl
end KO
set_option linter.all false
namespace Til
section
variable {cs : List Bx} {ws : List Tr} {W G : Int} (T : Tiles cs W G)

def bx0 : Bx := ⟨0, 0, 0, 0⟩
end
end Til
set_option linter.all false
namespace Til
end Til
set_option linter.all false
namespace Til
end Til
namespace Til
end Til
set_option linter.all false
namespace Til
section
variable {cs : List Bx} {ws us : List Tr} {W G : Int} (T : Tiles cs W G)
theorem box_one (T : Tiles cs W G) {b c : Bx} {x y : Int} (hb : b ∈ cs) (hc : c ∈ cs) (ib : inB b x y = true) (ic : inB c x y = true) : b = c := by
  have o := T.wf b hb
  have i := inB_iff.mp ib
  obtain ⟨k, d, _, _, uni⟩ := tiles_find T (x := x) (y := y) (by have := o.h0; omega) (by have := o.h2; omega) (by have := o.v0; omega) (by have := o.v2; omega)
  obtain ⟨p, hp⟩ := List.mem_iff_getElem?.mp hb
  obtain ⟨q, hq⟩ := List.mem_iff_getElem?.mp hc
  have e1 := uni p b hp ib
  have e2 := uni q c hq ic
  rw [e1] at hp
  rw [e2, hp] at hq
  exact Option.some.inj hq
end
end Til
set_option linter.all false
namespace Til
theorem tiles_nodup {bs : List Bx} {n m : Int} (T : Tiles bs n m) : bs.Nodup := by
  have h := tiles_nolap T
  refine List.Pairwise.imp_of_mem (fun {a b} ha hb hl e => ?_) h
  subst e
  have o := T.wf a ha
  have : lap a a = true := by
    unfold lap
    simp only [Bool.and_eq_true, decide_eq_true_eq]
    exact ⟨⟨o.h1, o.h1⟩, o.v1, o.v1⟩
  rw [this] at hl
  cases hl
def ixB (bs : List Bx) (b : Bx) : Nat := bs.findIdx (fun c => decide (c = b))
theorem ixB_at {bs : List Bx} (nd : bs.Nodup) {i : Nat} (hi : i < bs.length) : ixB bs bs[i] = i := by
  have h1 : ixB bs bs[i] ≤ i := by
    refine Nat.le_of_not_lt fun q => ?_
    have := List.not_of_lt_findIdx q
    simp at this
  have h2 : ixB bs bs[i] < bs.length := by omega
  have h3 := List.findIdx_getElem (w := h2)
  have h3 : bs[ixB bs bs[i]] = bs[i] := of_decide_eq_true h3
  refine Classical.byContradiction fun ne => ?_
  have lt : ixB bs bs[i] < i := by omega
  exact List.pairwise_iff_getElem.mp nd _ _ h2 hi lt h3
end Til
namespace Til
def bsd (b c : Bx) : Bool := decide (b.r = c.l) && (decide (b.t < c.b) && decide (c.t < b.b))
def bnt (b c : Bx) : Bool := decide (b.b = c.t) && (decide (b.l < c.r) && decide (c.l < b.r))
def row (R : Bx → Bx → Bool) (cs : List Bx) (i k : Nat) : List (Nat × Nat) := ((List.range k).filter fun j => R (cs.getD i bx0) (cs.getD j bx0)).map fun j => (i, j)
def prs (R : Bx → Bx → Bool) (cs : List Bx) (m : Nat) : List (Nat × Nat) := (List.range m).flatMap fun i => row R cs i cs.length
theorem row_succ (R : Bx → Bx → Bool) (cs : List Bx) (i k : Nat) : row R cs i (k + 1) = row R cs i k ++ if R (cs.getD i bx0) (cs.getD k bx0) = true then [(i, k)] else [] := by
  unfold row
  rw [List.range_succ, List.filter_append, List.map_append]
  congr 1
  by_cases h : R (cs.getD i bx0) (cs.getD k bx0) = true
  · rw [if_pos h, List.filter_cons_of_pos (p := fun j => R (cs.getD i bx0) (cs.getD j bx0)) h]
    rfl
  · rw [if_neg h, List.filter_cons_of_neg (p := fun j => R (cs.getD i bx0) (cs.getD j bx0)) h]
    rfl
theorem getB {ds : List Bx} {i : Nat} (h : i < ds.length) : ds.getD i bx0 = ds[i] := by
  rw [List.getD_eq_getElem?_getD, List.getElem?_eq_getElem h]
  rfl
theorem prs_succ (R : Bx → Bx → Bool) (cs : List Bx) (m : Nat) : prs R cs (m + 1) = prs R cs m ++ row R cs m cs.length := by
  unfold prs
  rw [List.range_succ, List.flatMap_append]
  simp
theorem mem_prs {R : Bx → Bx → Bool} {cs : List Bx} {m i j : Nat} : (i, j) ∈ prs R cs m ↔ i < m ∧ j < cs.length ∧ R (cs.getD i bx0) (cs.getD j bx0) = true := by
  unfold prs row
  rw [List.mem_flatMap]
  constructor
  · rintro ⟨a, ha, h⟩
    obtain ⟨b, hb, e⟩ := List.mem_map.mp h
    cases e
    have := List.mem_filter.mp hb
    exact ⟨List.mem_range.mp ha, List.mem_range.mp this.1, this.2⟩
  · rintro ⟨h1, h2, h3⟩
    exact ⟨i, List.mem_range.mpr h1, List.mem_map.mpr ⟨j, List.mem_filter.mpr ⟨List.mem_range.mpr h2, h3⟩, rfl⟩⟩
def Lt2 (p q : Nat × Nat) : Prop := p.1 < q.1 ∨ (p.1 = q.1 ∧ p.2 < q.2)
theorem prs_sorted (R : Bx → Bx → Bool) (cs : List Bx) (m : Nat) : (prs R cs m).Pairwise Lt2 := by
  unfold prs
  rw [List.pairwise_flatMap]
  refine ⟨fun i _ => ?_, List.pairwise_lt_range.imp fun {a b} h x hx y hy => ?_⟩
  · unfold row
    rw [List.pairwise_map]
    exact (List.pairwise_lt_range.filter _).imp fun h => .inr ⟨rfl, h⟩
  · unfold row at hx hy
    obtain ⟨_, _, rfl⟩ := List.mem_map.mp hx
    obtain ⟨_, _, rfl⟩ := List.mem_map.mp hy
    exact .inl h
theorem lt2_ne {p q : Nat × Nat} (h : Lt2 p q) : p ≠ q := fun e => by
  subst e
  unfold Lt2 at h
  omega
theorem prs_nodup (R : Bx → Bx → Bool) (cs : List Bx) (m : Nat) : (prs R cs m).Nodup := (prs_sorted R cs m).imp lt2_ne
theorem row_len (R : Bx → Bx → Bool) (cs : List Bx) (i k : Nat) : (row R cs i k).length ≤ k := by
  unfold row
  rw [List.length_map]
  exact Nat.le_trans (List.length_filter_le _ _) (by rw [List.length_range]; exact Nat.le_refl _)
theorem prs_len (R : Bx → Bx → Bool) (cs : List Bx) (m : Nat) : (prs R cs m).length ≤ m * cs.length := by
  induction m with
  | zero => exact Nat.zero_le _
  | succ m ih =>
    rw [prs_succ, List.length_append, Nat.succ_mul]
    have := row_len R cs m cs.length
    omega
end Til
set_option Elab.async false
set_option linter.all false
set_option maxRecDepth 100000
set_option maxHeartbeats 4000000
namespace L2
open PySem
def spOr (a b : Sp) : Sp := fun vs H Q E => a vs H Q E ∨ b vs H Q E
section
variable {P : Program} {w : World} {K : PySem.W.Frag} {mg : Str → Option Value} {base : Heap} {CX : CXT} {k : Nat} {f : Addr} {fd : FuncData} {ps : List Str} {a b : Sp}
theorem FnOk.or (F : FnOk P w K mg base CX k f fd ps a) (G : FnOk P w K mg base CX k f fd ps b) : FnOk P w K mg base CX k f fd ps (spOr a b) :=
  ⟨fun vs H Q E h => h.elim (F.len vs H Q E) (G.len vs H Q E), fun A outer s H args us vs Q E hr he hb hv h => h.elim (F.run A outer s H args us vs Q E hr he hb hv) (G.run A outer s H args us vs Q E hr he hb hv)⟩
end
end L2
namespace KO
open PySem L2 Til PySem.W
def i2 (p : Nat × Nat) : List Int := [(p.1 : Int), (p.2 : Int)]
theorem IvsAt.upd {H : Hp} {l : Addr} {xs : List V} {o' : HO} (hl : H l = some (.lst xs)) {vs : List V} {ps : List (List Int)} (h : IvsAt H vs ps) : IvsAt (upd H l o') vs ps := Paired.imp' (fun _ _ ⟨a, e, z⟩ => ⟨a, e, by rw [upd_ne (ne_of z hl (by intro q; cases q))]; exact z⟩) h
theorem ivs_app {H : Hp} : ∀ {vs us : List V} {ps qs : List (List Int)}, IvsAt H vs ps → IvsAt H us qs → IvsAt H (vs ++ us) (ps ++ qs)
  | _, _, _, _, .nil, h => h
  | _, _, _, _, .cons r t, h => .cons r (ivs_app t h)
def spMet (R : Bx → Bx → Bool) : Sp := fun vs H Q _ => ∃ (v u : V) (b c : Bx), vs = [v, u] ∧ BoxAt H v b ∧ BoxAt H u c ∧ Q (.bl (R b c)) H
def spPairs (f : Addr) (R : Bx → Bx → Bool) : Sp := fun vs H Q _ => ∃ (tb : Addr) (us : List V) (cs : List Bx), vs = [.ref tb, .ref f] ∧ TpF H tb us ∧ BoxesAt H us cs ∧ cs.length ≤ 24 ∧
  ∀ (l : Addr) (vl : List V) (H' : Hp), Same H H' → H l = none → H' l = some (.lst vl) → IvsAt H' vl ((prs R cs cs.length).map i2) → Q (.ref l) H'
def spBes (R : Bx → Bx → Bool) : Sp := fun vs H Q _ => ∃ (pg : Addr) (W G : Int) (cs : List Bx), vs = [.ref pg] ∧ PageAt H pg W G cs ∧
  ∀ (l : Addr) (vl : List V) (H' : Hp), Same H H' → H l = none → H' l = some (.lst vl) → IvsAt H' vl ((prs R cs cs.length).map i2) → Q (.ref l) H'
section
variable {P : Program} {w : World} {K : PySem.W.Frag} {mg : Str → Option Value} {base : Heap} {CX : CXT} {k : Nat} {f : Addr} {fd : FuncData} {ps : List Str} {a b : Sp}
theorem Callee.l {x : Str} (c : Callee P w K mg base CX k x f fd ps (spOr a b)) : Callee P w K mg base CX k x f fd ps a := ⟨c.ok.imp fun _ _ _ _ => .inl, c.bound, c.kp, c.bd⟩
theorem Callee.r {x : Str} (c : Callee P w K mg base CX k x f fd ps (spOr a b)) : Callee P w K mg base CX k x f fd ps b := ⟨c.ok.imp fun _ _ _ _ => .inr, c.bound, c.kp, c.bd⟩
end
section
variable {P : Program} {w : World} {K : PySem.W.Frag} {mg : Str → Option Value} {base : Heap}
theorem evl_andB {ta tb : TE} {σ : St} {H : Hp} {p q : Bool} (a : Evl ta σ H (.bl p)) (b : Evl tb σ H (.bl q)) : Evl (tAndV ta tb) σ H (.bl (p && q)) := fun Q z => a _ ⟨p, rfl, by
  cases p with
  | true => exact iteT (b _ z)
  | false => exact iteF z⟩
theorem scIsB : FnScope ["one", "other"] ["one", "other"] (defScope sIsB) := ⟨rfl, rfl, rfl, by decide +kernel, rfl, by decide +kernel, by decide +kernel⟩
theorem ok_isB {f : Addr} {fd : FuncData} (F : Fun K "is_beside" "is_beside" sIsB f fd) (gLEFT : GI mg "LEFT" 0) (gTOP : GI mg "TOP" 1) (gRIGHT : GI mg "RIGHT" 2) (gBELOW : GI mg "BELOW" 3) : FnOk P w K mg base CX0 1 f fd ["one", "other"] (spMet bsd) := by
  refine F.ok scIsB (fun vs H Q E h => ?_) (fun cdv A outer s H vs Q E hr h => ?_)
  · obtain ⟨v, u, b, c, rfl, _⟩ := h
    rfl
  · obtain ⟨v, u, b, c, rfl, ⟨p, rfl, hp⟩, ⟨r, rfl, hr'⟩, q⟩ := h
    refine ⟨_, (pss_one (ps_ret (pe_and (pe_cmpR op_eq (pe_ix ix_tup (pv 0) (pe_gi rfl gRIGHT) (fun _ _ => rfl)) (pe_ix ix_tup (pv 1) (pe_gi rfl gLEFT) (fun _ _ => rfl)) (nomark _)) (pe_and (pe_cmpR op_lt (pe_ix ix_tup (pv 0) (pe_gi rfl gTOP) (fun _ _ => rfl)) (pe_ix ix_tup (pv 1) (pe_gi rfl gBELOW) (fun _ _ => rfl)) (nomark _)) (pe_one (pe_cmpR op_lt (pe_ix ix_tup (pv 1) (pe_gi rfl gTOP) (fun _ _ => rfl)) (pe_ix ix_tup (pv 0) (pe_gi rfl gBELOW) (fun _ _ => rfl)) (nomark _))))))), ?_⟩
    have t := box_four hp K
    have t' := box_four hr' K
    refine run_ret (v := .bl (bsd b c)) ?_ q
    unfold bsd
    refine evl_andB ?_ (evl_andB ?_ ?_)
    · exact evl_eqI (evl_ixT (evl_var rfl) evl_c t rfl) (evl_ixT (evl_var rfl) evl_c t' rfl)
    · exact evl_I0 (evl_ixT (evl_var rfl) evl_c t rfl) (evl_ixT (evl_var rfl) evl_c t' rfl)
    · exact evl_I0 (evl_ixT (evl_var rfl) evl_c t' rfl) (evl_ixT (evl_var rfl) evl_c t rfl)
theorem scIsD : FnScope ["one", "other"] ["one", "other"] (defScope sIsD) := ⟨rfl, rfl, rfl, by decide +kernel, rfl, by decide +kernel, by decide +kernel⟩
theorem ok_isD {f : Addr} {fd : FuncData} (F : Fun K "is_beneath" "is_beneath" sIsD f fd) (gLEFT : GI mg "LEFT" 0) (gTOP : GI mg "TOP" 1) (gRIGHT : GI mg "RIGHT" 2) (gBELOW : GI mg "BELOW" 3) : FnOk P w K mg base CX0 1 f fd ["one", "other"] (spMet bnt) := by
  refine F.ok scIsD (fun vs H Q E h => ?_) (fun cdv A outer s H vs Q E hr h => ?_)
  · obtain ⟨v, u, b, c, rfl, _⟩ := h
    rfl
  · obtain ⟨v, u, b, c, rfl, ⟨p, rfl, hp⟩, ⟨r, rfl, hr'⟩, q⟩ := h
    refine ⟨_, (pss_one (ps_ret (pe_and (pe_cmpR op_eq (pe_ix ix_tup (pv 0) (pe_gi rfl gBELOW) (fun _ _ => rfl)) (pe_ix ix_tup (pv 1) (pe_gi rfl gTOP) (fun _ _ => rfl)) (nomark _)) (pe_and (pe_cmpR op_lt (pe_ix ix_tup (pv 0) (pe_gi rfl gLEFT) (fun _ _ => rfl)) (pe_ix ix_tup (pv 1) (pe_gi rfl gRIGHT) (fun _ _ => rfl)) (nomark _)) (pe_one (pe_cmpR op_lt (pe_ix ix_tup (pv 1) (pe_gi rfl gLEFT) (fun _ _ => rfl)) (pe_ix ix_tup (pv 0) (pe_gi rfl gRIGHT) (fun _ _ => rfl)) (nomark _))))))), ?_⟩
    have t := box_four hp K
    have t' := box_four hr' K
    refine run_ret (v := .bl (bnt b c)) ?_ q
    unfold bnt
    refine evl_andB ?_ (evl_andB ?_ ?_)
    · exact evl_eqI (evl_ixT (evl_var rfl) evl_c t rfl) (evl_ixT (evl_var rfl) evl_c t' rfl)
    · exact evl_I0 (evl_ixT (evl_var rfl) evl_c t rfl) (evl_ixT (evl_var rfl) evl_c t' rfl)
    · exact evl_I0 (evl_ixT (evl_var rfl) evl_c t' rfl) (evl_ixT (evl_var rfl) evl_c t rfl)
theorem scPairs : FnScope ["boxes", "are_met", "found", "number", "one"] ["boxes", "are_met"] (defScope sPairs) := ⟨rfl, rfl, rfl, by decide +kernel, rfl, by decide +kernel, by decide +kernel⟩
theorem ok_pairs {f fX : Addr} {fd dX : FuncData} {nm : Str} {R : Bx → Bx → Bool} (F : Fun K "pairs" "pairs" sPairs f fd) (te : mg "enumerate" = none) (Cl : Callee P w K mg base CX0 1 nm fX dX ["one", "other"] (spMet R)) : FnOk P w K mg base CX0 2 f fd ["boxes", "are_met"] (spPairs fX R) := by
  refine F.ok scPairs (fun vs H Q E h => ?_) (fun cdv A outer s H vs Q E hr h => ?_)
  · obtain ⟨tb, us, cs, rfl, _⟩ := h
    rfl
  · obtain ⟨tb, us, cs, rfl, htb, hB, h24, q⟩ := h
    have lu := hB.len
    refine ⟨_, (pss_cons (ps_set (i := 2) scPairs.nd rfl (Or.inl rfl) (pe_lst pa_nil))
      (pss_cons (ps_for PassesOwn.never rfl (pi_enumT rfl te (pa_cons (pv 0) pa_nil)) (pg_tup rfl (pgs_cons (pg_name (i := 3) scPairs.nd rfl (Or.inr rfl)) (pgs_cons (pg_name (i := 4) scPairs.nd rfl (Or.inr rfl)) pgs_nil)))
      (pss_one (ps_expr (pe_bm PySem.F.plainAttrs_list PySem.F.slot_list_extend PySem.F.type_list_extend mt_extend (pv 2) (pa_cons (pe_comp (Nc := ["behind", "other", "number", "are_met", "one"]) (ix := [none, none, some 3, some 1, some 4]) rfl rfl (by exact (pi_enumT rfl te (pa_cons (pv 0) pa_nil))) (fun _ _ _ _ _ => (pg_tupK (K := K) (n := 2) rfl rfl (pgs_cons (pg_name (i := 0) (by show (["behind", "other", "number", "are_met", "one"] : List Str).Nodup; decide +kernel) rfl (Or.inl rfl)) (pgs_cons (pg_name (i := 1) (by show (["behind", "other", "number", "are_met", "one"] : List Str).Nodup; decide +kernel) rfl (Or.inl rfl)) pgs_nil)))) (fun _ _ _ _ _ => (pts_one (pt_val (pe_callV (i := 3) Cl.ok hr rfl (by first | exact Or.inl rfl | exact Or.inr (Or.inl rfl) | exact Or.inr (Or.inr rfl)) Cl.kp Cl.bd .nil pass0 (pa_cons (pv 4) (pa_cons (pv 1) pa_nil)))))) (fun _ _ _ _ _ => (pe_tup (pa_cons (pv 2) (pa_cons (pv 0) pa_nil))))) pa_nil)))))
      (pss_one (ps_ret (pv 2))))), ?_⟩
    refine seq_lst ⟨by show 0 ≤ sizeLine; decide, fun lf nlf => ?_⟩
    have S1 := same_new (o := .lst []) nlf
    have hlf : (upd H lf (.lst [])) lf = some (.lst []) := upd_same
    generalize upd H lf (.lst []) = H1 at S1 hlf
    refine ⟨_, rfl, tb, rfl, ⟨_, (htb.same S1).sq⟩, ?_⟩
    refine for_enumT (K := K) (a := tb) (xs := us) (fun i σ H2 => ∃ (vl : List V) (o3 o4 : Option V), σ = [some (.ref tb), some (.ref fX), some (.ref lf), o3, o4] ∧ Same H H2 ∧ H2 lf = some (.lst vl) ∧ IvsAt H2 vl ((prs R cs i).map i2))
      ⟨[], none, none, rfl, S1, hlf, .nil⟩ (fun i σ H2 _ ⟨_, _, _, _, S, _⟩ => (htb.same S).sq) ?_ ?_
    · rintro i x σ H2 p hi ⟨vl, o3, o4, rfl, S2, hlf2, hI⟩ hn
      obtain ⟨b, hb, pb, rfl, hpb⟩ := paired_get' hB hi
      have hil := (List.getElem?_eq_some_iff.mp hb).1
      have eb : cs.getD i Til.bx0 = b := by rw [List.getD_eq_getElem?_getD, hb]; rfl
      have S3 := same_new (o := .tup [.int (i : Int), .ref pb]) hn
      refine ⟨p, _, rfl, SqT.of upd_same, rfl, _, _, rfl, _, _, rfl, rfl, ?_⟩
      generalize upd H2 p (.tup [.int (i : Int), .ref pb]) = H3 at S3
      have S23 := S2.trans S3
      have hlf3 := S3 _ _ hlf2
      have htb3 := htb.same S23
      refine ⟨_, rfl, .inl ⟨rfl, _, SqL.of hlf3⟩, _, rfl, tb, rfl, ⟨_, htb3.sq⟩, cmp_enumT (K := K) (a := tb) (xs := us) (fun k ys σ H4 => IvsAt H4 ys ((row R cs i k).map i2) ∧ Same H3 H4 ∧ ∃ o0 o1, σ = [o0, o1, some (.int (i : Int)), some (.ref fX), some (.ref pb)]) ⟨.nil, Same.refl _, none, none, rfl⟩
        (fun k ys σ H4 hk ⟨e, S, _⟩ => ⟨by rw [e.len, List.length_map]; exact Nat.le_trans (Nat.le_trans (row_len R cs i k) (show _ ≤ 1000 by omega)) (by decide), (htb3.same S).sq⟩) ?_ ?_⟩
      case refine_2 =>
        rintro k y ys σ H4 p4 hy ⟨hY, S4, o0, o1, rfl⟩ hn4
        obtain ⟨c, hc, pc, rfl, hpc⟩ := paired_get' hB hy
        have ec : cs.getD k Til.bx0 = c := by rw [List.getD_eq_getElem?_getD, hc]; rfl
        have S5 := same_new (o := .tup [.int (k : Int), .ref pc]) hn4
        refine ⟨p4, _, rfl, SqT.of upd_same, rfl, _, _, rfl, _, _, rfl, rfl, ?_⟩
        generalize upd H4 p4 (.tup [.int (k : Int), .ref pc]) = H5 at S5
        have A5 := S23.trans (S4.trans S5)
        refine ⟨rfl, _, rfl, _, rfl, _, _, b, c, rfl, ⟨pb, rfl, A5 _ _ hpb⟩, ⟨pc, rfl, A5 _ _ hpc⟩, _, rfl, ?_⟩
        rw [row_succ, eb, ec]
        by_cases r : R b c = true
        · rw [r, if_pos rfl]
          refine iteT ⟨_, rfl, _, rfl, by show 2 ≤ sizeLine; decide, fun tp ntp => ⟨?_, S4.trans (S5.trans (same_new ntp)), _, _, rfl⟩⟩
          rw [List.map_append]
          exact Paired.snoc (hY.same (S5.trans (same_new ntp))) ⟨tp, rfl, upd_same⟩
        · have r : R b c = false := by rw [← Bool.not_eq_true]; exact r
          rw [r, if_neg Bool.false_ne_true, List.append_nil]
          exact iteF ⟨hY.same S5, S4.trans S5, _, _, rfl⟩
      rintro ys σ H4 ⟨hY, S4, _⟩ la nla
      rw [lu] at hY
      have S6 := S4.trans (same_new (o := .lst ys) nla)
      have hY6 := hY.same (same_new (o := .lst ys) nla)
      have hla : (upd H4 la (.lst ys)) la = some (.lst ys) := upd_same
      generalize upd H4 la (.lst ys) = H6 at S6 hY6 hla
      have hlf6 := S6 _ _ hlf3
      have ll := hI.len
      have ly := hY.len
      rw [List.length_map] at ll ly
      have b1 := prs_len R cs i
      have b2 := row_len R cs i cs.length
      have b3 : i * cs.length ≤ 24 * 24 := Nat.mul_le_mul (by omega) h24
      refine ⟨lf, la, vl, ys, rfl, rfl, hlf6, hla, Nat.le_trans (show _ ≤ 1000 by omega) (by decide), ?_⟩
      refine ⟨vl ++ ys, _, _, rfl, same_upd (S23.trans S6) nlf, upd_same, ?_⟩
      rw [prs_succ, List.map_append]
      exact ivs_app (IvsAt.upd hlf6 (hI.same (S3.trans S6))) (IvsAt.upd hlf6 hY6)
    · rintro σ H2 ⟨vl, o3, o4, rfl, S2, hlf2, hI⟩
      rw [lu] at hI
      exact ⟨_, rfl, q lf vl H2 S2 nlf hlf2 hI⟩
theorem scBeside : FnScope ["page"] ["page"] (defScope sBeside) := ⟨rfl, rfl, rfl, by decide +kernel, rfl, by decide +kernel, by decide +kernel⟩
theorem ok_beside {f fP fX : Addr} {fd dP dX : FuncData} (F : Fun K "beside" "beside" sBeside f fd) (gBOXES : GI mg "BOXES" 2) (Cl : Callee P w K mg base CX0 1 "is_beside" fX dX ["one", "other"] (spMet bsd)) (Pi : Callee P w K mg base CX0 2 "pairs" fP dP ["boxes", "are_met"] (spPairs fX bsd)) : FnOk P w K mg base CX0 3 f fd ["page"] (spBes bsd) := by
  refine F.ok scBeside (fun vs H Q E h => ?_) (fun cdv A outer s H vs Q E hr h => ?_)
  · obtain ⟨pg, W, G, cs, rfl, _⟩ := h
    rfl
  · obtain ⟨pg, W, G, cs, rfl, ⟨tb, us, hpg, htb, hB, hlen⟩, q⟩ := h
    refine ⟨_, (pss_one (ps_ret (pe_call Pi.ok hr rfl Pi.bound Pi.kp Pi.bd .nil pass0 (pa_cons (pe_ix ix_tup (pv 0) (pe_gi rfl gBOXES) (fun _ _ => rfl)) (pa_cons (pe_glob (v := .ref fX) rfl Cl.bound rfl) pa_nil))))), ?_⟩
    exact ⟨_, rfl, _, _, _, _, rfl, rfl, SqT.of hpg, rfl, tb, us, cs, rfl, htb, hB, hlen, q⟩
theorem scBeneath : FnScope ["page"] ["page"] (defScope sBeneath) := ⟨rfl, rfl, rfl, by decide +kernel, rfl, by decide +kernel, by decide +kernel⟩
theorem ok_beneath {f fP fX : Addr} {fd dP dX : FuncData} (F : Fun K "beneath" "beneath" sBeneath f fd) (gBOXES : GI mg "BOXES" 2) (Cl : Callee P w K mg base CX0 1 "is_beneath" fX dX ["one", "other"] (spMet bnt)) (Pi : Callee P w K mg base CX0 2 "pairs" fP dP ["boxes", "are_met"] (spPairs fX bnt)) : FnOk P w K mg base CX0 3 f fd ["page"] (spBes bnt) := by
  refine F.ok scBeneath (fun vs H Q E h => ?_) (fun cdv A outer s H vs Q E hr h => ?_)
  · obtain ⟨pg, W, G, cs, rfl, _⟩ := h
    rfl
  · obtain ⟨pg, W, G, cs, rfl, ⟨tb, us, hpg, htb, hB, hlen⟩, q⟩ := h
    refine ⟨_, (pss_one (ps_ret (pe_call Pi.ok hr rfl Pi.bound Pi.kp Pi.bd .nil pass0 (pa_cons (pe_ix ix_tup (pv 0) (pe_gi rfl gBOXES) (fun _ _ => rfl)) (pa_cons (pe_glob (v := .ref fX) rfl Cl.bound rfl) pa_nil))))), ?_⟩
    exact ⟨_, rfl, _, _, _, _, rfl, rfl, SqT.of hpg, rfl, tb, us, cs, rfl, htb, hB, hlen, q⟩
end
end KO
namespace Til
theorem few_lt {l : List Nat} {n : Nat} (nd : l.Nodup) (h : ∀ x ∈ l, x < n) : l.length ≤ n := by
  have p : l.Perm ((List.range n).filter fun x => decide (x ∈ l)) := (List.perm_ext_iff_of_nodup nd (List.nodup_range.filter _)).mpr fun x => by
    rw [List.mem_filter, List.mem_range, decide_eq_true_eq]
    exact ⟨fun z => ⟨h x z, z⟩, fun z => z.2⟩
  rw [p.length_eq]
  exact Nat.le_trans (List.length_filter_le _ _) (by rw [List.length_range]; exact Nat.le_refl _)
theorem two_filter {α : Type} (p : α → Bool) (L : List α) : L.length = (L.filter p).length + (L.filter fun q => !p q).length := by
  induction L with
  | nil => rfl
  | cons a r ih =>
    cases h : p a
    · simp [h, ih]
      omega
    · simp [h, ih]
      omega
section
variable {cs : List Bx} {W G : Int} (T : Tiles cs W G)
include T
theorem same_ix {i j : Nat} (hi : i < cs.length) (hj : j < cs.length) {x y : Int} (h1 : inB cs[i] x y = true) (h2 : inB cs[j] x y = true) : i = j := by
  have e := box_one T (List.getElem_mem hi) (List.getElem_mem hj) h1 h2
  have nd := tiles_nodup T
  have a := ixB_at nd hi
  have b := ixB_at nd hj
  rw [e] at a
  omega
theorem bsd_few : (prs bsd cs cs.length).length ≤ 2 * cs.length := by
  have box : ∀ q ∈ prs bsd cs cs.length, ∃ (h1 : q.1 < cs.length) (h2 : q.2 < cs.length), cs[q.1].r = cs[q.2].l ∧ cs[q.1].t < cs[q.2].b ∧ cs[q.2].t < cs[q.1].b := fun q hq => by
    obtain ⟨m1, m2, z⟩ := mem_prs.mp (show (q.1, q.2) ∈ prs bsd cs cs.length from hq)
    refine ⟨m1, m2, ?_⟩
    rw [getB m1, getB m2] at z
    unfold bsd at z
    simp only [Bool.and_eq_true, decide_eq_true_eq] at z
    exact z
  have nd := prs_nodup bsd cs cs.length
  generalize prs bsd cs cs.length = L at box nd
  have len := two_filter (fun q : Nat × Nat => decide ((cs.getD q.1 bx0).t ≤ (cs.getD q.2 bx0).t)) L
  have a1 : (L.filter fun q => decide ((cs.getD q.1 bx0).t ≤ (cs.getD q.2 bx0).t)).length ≤ cs.length := by
    rw [← List.length_map (f := Prod.snd)]
    refine few_lt ?_ fun x hx => ?_
    · unfold List.Nodup
      rw [List.pairwise_map]
      refine List.Pairwise.imp_of_mem (fun {a b} ha hb ne e => ne ?_) (nd.filter _)
      obtain ⟨ha, ta⟩ := List.mem_filter.mp ha
      obtain ⟨hb, tb⟩ := List.mem_filter.mp hb
      obtain ⟨a1, a2, r1, s1, u1⟩ := box a ha
      obtain ⟨b1, b2, r2, s2, u2⟩ := box b hb
      have ta := of_decide_eq_true ta
      have tb := of_decide_eq_true tb
      rw [getB a1, getB a2] at ta
      rw [getB b1, getB b2] at tb
      have e : a.2 = b.2 := e
      have ec : cs[a.2] = cs[b.2] := by congr 1
      have oa := T.wf _ (List.getElem_mem a1)
      have ob := T.wf _ (List.getElem_mem b1)
      have := same_ix T a1 b1 (x := cs[a.2].l - 1) (y := cs[a.2].t) (inB_iff.mpr ⟨by have := oa.h1; omega, by omega, ta, u1⟩) (by
        rw [ec]
        exact inB_iff.mpr ⟨by have := ob.h1; omega, by omega, tb, u2⟩)
      exact Prod.ext this e
    · obtain ⟨q, hq, rfl⟩ := List.mem_map.mp hx
      obtain ⟨_, h2, _⟩ := box q (List.mem_filter.mp hq).1
      exact h2
  have a2 : (L.filter fun q => !decide ((cs.getD q.1 bx0).t ≤ (cs.getD q.2 bx0).t)).length ≤ cs.length := by
    rw [← List.length_map (f := Prod.fst)]
    refine few_lt ?_ fun x hx => ?_
    · unfold List.Nodup
      rw [List.pairwise_map]
      refine List.Pairwise.imp_of_mem (fun {a b} ha hb ne e => ne ?_) (nd.filter _)
      obtain ⟨ha, ta⟩ := List.mem_filter.mp ha
      obtain ⟨hb, tb⟩ := List.mem_filter.mp hb
      obtain ⟨a1, a2, r1, s1, u1⟩ := box a ha
      obtain ⟨b1, b2, r2, s2, u2⟩ := box b hb
      rw [Bool.not_eq_true', decide_eq_false_iff_not] at ta tb
      rw [getB a1, getB a2] at ta
      rw [getB b1, getB b2] at tb
      have e : a.1 = b.1 := e
      have ec : cs[a.1] = cs[b.1] := by congr 1
      have oa := T.wf _ (List.getElem_mem a2)
      have ob := T.wf _ (List.getElem_mem b2)
      have := same_ix T a2 b2 (x := cs[a.1].r) (y := cs[a.1].t) (inB_iff.mpr ⟨by omega, by have := oa.h1; omega, by omega, s1⟩) (by
        rw [ec]
        exact inB_iff.mpr ⟨by omega, by have := ob.h1; omega, by omega, s2⟩)
      exact Prod.ext e this
    · obtain ⟨q, hq, rfl⟩ := List.mem_map.mp hx
      obtain ⟨h1, _⟩ := box q (List.mem_filter.mp hq).1
      exact h1
  omega
theorem bnt_few : (prs bnt cs cs.length).length ≤ 2 * cs.length := by
  have g : ∀ i, (cs.map flp).getD i bx0 = flp (cs.getD i bx0) := fun i => by
    rw [List.getD_eq_getElem?_getD, List.getD_eq_getElem?_getD, List.getElem?_map]
    cases cs[i]? with
    | none => rfl
    | some b => rfl
  have e : prs bnt cs cs.length = prs bsd (cs.map flp) (cs.map flp).length := by
    unfold prs row
    rw [List.length_map]
    simp only [g]
    rfl
  rw [e]
  have := bsd_few (tiles_flp T)
  rw [List.length_map] at this ⊢
  exact this
end
end Til
set_option linter.all false
namespace Til
end Til
namespace Til
end Til
namespace Til
def TLb (a b : Bx) : Prop := a.t < b.t ∨ (a.t = b.t ∧ a.l ≤ b.l)
theorem corner_eq {cs : List Bx} {n m : Int} (T : Tiles cs n m) {a b : Bx} (ha : a ∈ cs) (hb : b ∈ cs) (h1 : a.t = b.t) (h2 : a.l = b.l) : a = b := by
  obtain ⟨i, hi⟩ := List.getElem?_of_mem ha
  obtain ⟨j, hj⟩ := List.getElem?_of_mem hb
  by_cases hij : i = j
  · subst hij
    rw [hi] at hj
    exact Option.some.inj hj
  · have ap := T.apart hi hj hij
    have o1 := T.wf a ha
    have o2 := T.wf b hb
    have a1 := o1.h1
    have a2 := o1.v1
    have a3 := o2.h1
    have a4 := o2.v1
    omega
theorem sorted_same {cs ds : List Bx} {n m : Int} (T : Tiles cs n m) (p : ds.Perm cs) (h1 : ds.Pairwise TLb) (h2 : cs.Pairwise TLb) : ds = cs :=
  List.Perm.eq_of_pairwise (le := TLb) (fun a b ha hb x y => corner_eq T (p.mem_iff.mp ha) hb (by unfold TLb at x y; omega) (by unfold TLb at x y; omega)) h1 h2 p
end Til
namespace Til
section
variable {cs : List Bx} {W G : Int} (T : Tiles cs W G)
include T
theorem beside_iff {i j : Nat} : (i, j) ∈ prs bsd cs cs.length ↔ ∃ x y : Int, 0 < x ∧ x < W ∧ 0 ≤ y ∧ y < G ∧ idx cs (x - 1) y = i ∧ idx cs x y = j ∧ i ≠ j := by
  rw [mem_prs]
  constructor
  · rintro ⟨hi, hj, h⟩
    rw [getB hi, getB hj] at h
    unfold bsd at h
    simp only [Bool.and_eq_true, decide_eq_true_eq] at h
    have oi := T.wf _ (List.getElem_mem hi)
    have oj := T.wf _ (List.getElem_mem hj)
    obtain ⟨i1, i2, i3, i4, i5, i6⟩ := oi
    obtain ⟨j1, j2, j3, j4, j5, j6⟩ := oj
    have : ∃ y, cs[i].t ≤ y ∧ y < cs[i].b ∧ cs[j].t ≤ y ∧ y < cs[j].b := by
      by_cases z : cs[i].t ≤ cs[j].t
      · exact ⟨cs[j].t, by omega⟩
      · exact ⟨cs[i].t, by omega⟩
    obtain ⟨y, y1, y2, y3, y4⟩ := this
    refine ⟨cs[i].r, y, by omega, by omega, by omega, by omega, idx_of T (by omega) (by omega) (by omega) (by omega) (List.getElem?_eq_getElem hi) (inB_iff.mpr ⟨by omega, by omega, y1, y2⟩), idx_of T (by omega) (by omega) (by omega) (by omega) (List.getElem?_eq_getElem hj) (inB_iff.mpr ⟨by omega, by omega, y3, y4⟩), fun e => ?_⟩
    subst e
    omega
  · rintro ⟨x, y, x0, x1, y0, y1, rfl, rfl, ne⟩
    obtain ⟨b, hb, ib⟩ := idx_in T (x := x - 1) (y := y) (by omega) (by omega) y0 y1
    obtain ⟨c, hc, ic⟩ := idx_in T (x := x) (y := y) (by omega) x1 y0 y1
    obtain ⟨hi, eb⟩ := List.getElem?_eq_some_iff.mp hb
    obtain ⟨hj, ec⟩ := List.getElem?_eq_some_iff.mp hc
    refine ⟨hi, hj, ?_⟩
    rw [getB hi, getB hj, eb, ec]
    have i := inB_iff.mp ib
    have k := inB_iff.mp ic
    have e1 : b.r = x := by
      refine Classical.byContradiction fun z => ne ?_
      exact (idx_of T (by omega) x1 y0 y1 hb (inB_iff.mpr ⟨by omega, by omega, i.2.2.1, i.2.2.2⟩)).symm
    have e2 : c.l = x := by
      refine Classical.byContradiction fun z => ne ?_
      exact idx_of T (by omega) (by omega) y0 y1 hc (inB_iff.mpr ⟨by omega, by omega, k.2.2.1, k.2.2.2⟩)
    unfold bsd
    simp only [Bool.and_eq_true, decide_eq_true_eq]
    omega
theorem beneath_iff {i j : Nat} : (i, j) ∈ prs bnt cs cs.length ↔ ∃ x y : Int, 0 ≤ x ∧ x < W ∧ 0 < y ∧ y < G ∧ idx cs x (y - 1) = i ∧ idx cs x y = j ∧ i ≠ j := by
  have g : ∀ i, (cs.map flp).getD i bx0 = flp (cs.getD i bx0) := fun i => by
    rw [List.getD_eq_getElem?_getD, List.getD_eq_getElem?_getD, List.getElem?_map]
    cases cs[i]? with
    | none => rfl
    | some b => rfl
  have e : (i, j) ∈ prs bnt cs cs.length ↔ (i, j) ∈ prs bsd (cs.map flp) (cs.map flp).length := by
    rw [mem_prs, mem_prs, g, g, List.length_map]
    exact Iff.rfl
  rw [e, beside_iff (tiles_flp T)]
  constructor
  · rintro ⟨x, y, h1, h2, h3, h4, h5, h6, h7⟩
    rw [idx_flp] at h5 h6
    exact ⟨y, x, h3, h4, h1, h2, h5, h6, h7⟩
  · rintro ⟨x, y, h1, h2, h3, h4, h5, h6, h7⟩
    exact ⟨y, x, h3, h4, h1, h2, by rw [idx_flp]; exact h5, by rw [idx_flp]; exact h6, h7⟩
end
theorem prs_congr {R R' : Bx → Bx → Bool} {cs ds : List Bx} (l : cs.length = ds.length) (h : ∀ i j, i < cs.length → j < cs.length → R (cs.getD i bx0) (cs.getD j bx0) = R' (ds.getD i bx0) (ds.getD j bx0)) : prs R cs cs.length = prs R' ds ds.length := by
  unfold prs row
  rw [← l]
  rw [List.flatMap_def, List.flatMap_def]
  congr 1
  refine List.map_congr_left fun i hi => ?_
  have hi := List.mem_range.mp hi
  congr 1
  refine List.filter_congr fun j hj => ?_
  exact h i j hi (List.mem_range.mp hj)
theorem rising_lt {xs : List Int} (R : Rising xs) {i j : Nat} (hi : i < xs.length) (hj : j < xs.length) : xs.getD i 0 < xs.getD j 0 ↔ i < j := by
  constructor
  · intro h
    refine Nat.lt_of_not_le fun z => ?_
    have := rising_le R z hi
    omega
  · exact fun h => R i j h hj
theorem rising_eq {xs : List Int} (R : Rising xs) {i j : Nat} (hi : i < xs.length) (hj : j < xs.length) : xs.getD i 0 = xs.getD j 0 ↔ i = j := by
  constructor
  · intro h
    rcases Nat.lt_trichotomy i j with z | z | z
    · have := R i j z hj
      omega
    · exact z
    · have := R j i z hi
      omega
  · exact fun h => by rw [h]
section
variable {n : Nat} {xs ys : List Int} (Rx : Rising xs) (Ry : Rising ys) (lx : xs.length = n + 1) (ly : ys.length = n + 1) {b c : Bx} (ob : Ok n n b) (oc : Ok n n c)
include Rx Ry lx ly ob oc
theorem bsd_lay : bsd (lay xs ys b) (lay xs ys c) = bsd b c := by
  obtain ⟨b1, b2, b3, b4, b5, b6⟩ := ob
  obtain ⟨c1, c2, c3, c4, c5, c6⟩ := oc
  unfold bsd lay
  dsimp only
  rw [Bool.eq_iff_iff]
  simp only [Bool.and_eq_true, decide_eq_true_eq]
  rw [rising_eq Rx (by omega) (by omega), rising_lt Ry (by omega) (by omega), rising_lt Ry (by omega) (by omega)]
  omega
theorem bnt_lay : bnt (lay xs ys b) (lay xs ys c) = bnt b c := by
  obtain ⟨b1, b2, b3, b4, b5, b6⟩ := ob
  obtain ⟨c1, c2, c3, c4, c5, c6⟩ := oc
  unfold bnt lay
  dsimp only
  rw [Bool.eq_iff_iff]
  simp only [Bool.and_eq_true, decide_eq_true_eq]
  rw [rising_eq Ry (by omega) (by omega), rising_lt Rx (by omega) (by omega), rising_lt Rx (by omega) (by omega)]
  omega
theorem tl_lay (h : TLb b c) : TLb (lay xs ys b) (lay xs ys c) := by
  obtain ⟨b1, b2, b3, b4, b5, b6⟩ := ob
  obtain ⟨c1, c2, c3, c4, c5, c6⟩ := oc
  unfold TLb at *
  unfold lay
  dsimp only
  rcases h with h | ⟨h1, h2⟩
  · exact .inl (Ry _ _ (by omega) (by omega))
  · exact .inr ⟨by rw [h1], rising_le Rx (by omega) (by omega)⟩
end
end Til
set_option Elab.async false
set_option linter.all false
set_option maxRecDepth 100000
namespace L2
open PySem PySem.Spec PyProof.Rows PySem.W
end L2
set_option Elab.async false
set_option linter.all false
set_option maxRecDepth 100000
namespace L2
open PySem PySem.Spec PyProof.Rows
theorem tab_mk {K : PySem.W.Frag} {x : Str} {f c T : Addr} {oc o1 : Value} {od o2 : Option Addr} {fd : FuncData} {sl o3 : Array (Option Value)} {vs : Array Value} (a : PySem.W.nsIn K mainGlobals x = some (some (.ref f))) (l : K.lookup f = some ⟨oc, od, .func fd, sl⟩) (e : fd.code = .ref c)
    (lc : K.lookup c = some ⟨o1, o2, .fields vs, o3⟩) (h : vs[11]? = some (.ref T)) : PySem.W.tabIn K x = some (c, T) := by
  unfold PySem.W.tabIn
  simp only [a, l, e, lc, h]
end L2
set_option Elab.async false
set_option linter.all false
set_option maxRecDepth 100000
namespace L2
open PySem PySem.Spec PyProof.Rows PySem.W
def LamAt (T : Addr) (qual : Str) (pos : Pos) (H : Hp) : Prop := ∃ ps : Array Value, H T = some (.tbl ps) ∧ TriplesOk ps.toList ∧ (codeAmong pos ps.toList = none ∨ ∃ c, codeAmong pos ps.toList = some (.ref c) ∧ H c = some (.ext (CdIs c qual)))
theorem LamAt.fresh {T : Addr} {qual : Str} {pos : Pos} {H : Hp} (h : H T = some (.tbl #[])) : LamAt T qual pos H := ⟨#[], h, trivial, .inl rfl⟩
def But (T : Addr) (H H' : Hp) : Prop := ∀ b o, b ≠ T → H b = some o → H' b = some o
section
variable {X : Cx} {pins : List (Addr × Obj)} {σ : St} {H : Hp} {s : Shared}
def tLam2 (P : Addr) (qual : Str) (params : Arguments) (body : Expr) (scope : Scope) (pos : Pos) : TE := fun _ H Q => LamAt P qual pos H ∧
  ∀ f c H', But P H H' → H' f = some (.ext (FnIs f c qual params body scope)) → H' c = some (.ext (CdIs c qual)) → LamAt P qual pos H' → Q (.ref f) H'
theorem pe_lam2 {params : Arguments} {body : Expr} {scope : Scope} {pos : Pos} {c P : Addr} (hcode : X.env.code = .ref c) (C : CodeHd X.base c P) (hB : BMain X.mg X.base) (hcl : closureFor scope X.env = pure []) (hdef : defaultsOf params X.env = ([], [])) :
    PE X (.Lambda params body scope pos) (tLam2 P (X.env.qual ++ "<lambda>") params body scope pos) := by
  intro pins s σ H Q I h
  obtain ⟨⟨ps, hP, ht, hnf⟩, q⟩ := h
  have hPo : s.heap.get? P = some (tabObj ps) := I.hok P _ hP
  obtain ⟨bm, ob, b1, b2, b3, b4, b5, b6⟩ := hB
  have hg : s.heap.Ns mainGlobals X.mg := I.mod.glob.keeps I.bk
  have nb : ∀ b o, X.base.get? b = some o → b ≠ P := fun b o e z => by
    have := (I.bs b o e).2
    rw [z, hP] at this
    cases this
  have hgP : mainGlobals ≠ P := by
    obtain ⟨o, es, ep, e, _⟩ := I.mod.glob
    exact nb _ o e
  have hbG : bm ≠ mainGlobals := fun z => by
    obtain ⟨o, es, ep, e, hd, _⟩ := I.mod.glob
    rw [z, e] at b3
    cases b3
    rw [hd] at b6
    cases b6
  rcases hnf with hnf | ⟨cc, hf, hcc⟩
  · refine kla_eval hdef (kla_makeFunction (mg := X.mg) hcl I.ok.glob hg hcode (C.keeps I.bk) hPo ht hnf hgP ⟨bm, ob, b1, b2, hbG, nb _ _ b3, I.bk _ _ b3, b4, b5, b6⟩ fun c' ctv h' tk hx hge hlt hrec htb => ?_)
    have I1 : Inv X pins σ (upd H P (.tbl (ps ++ #[rawInt pos.line, rawInt pos.col, .ref c']))) { s with heap := h', toks := tk } := I.grown hP hx htb
    have n1 : H c' = none := I.hok.fresh hge
    have hPc : c' ≠ P := fun z => by rw [z, hP] at n1; cases n1
    have y1 := I.young hge
    have I2 := I1.kept (h' := h'.push (kla_obj "<lambda>" (X.env.qual ++ "<lambda>") params body scope [] ((X.mg "__name__").getD .none) c' ctv)) (t' := tk) fun b u e => Heap.get?_push_of_some _ e
    obtain ⟨c2, oc, vs, t, e2, hoc, hd, hv⟩ := hrec
    cases e2
    have I3 := I2.track (p := c') (o := .ext (CdIs c' (X.env.qual ++ "<lambda>"))) (by rw [upd_ne hPc]; exact n1) (Heap.get?_none_of_le (Nat.le_trans I.sz hge)) y1.lo y1.ce y1.pi (CdIs.ok ⟨oc, vs, t, Heap.get?_push_of_some _ hoc, hd, hv⟩)
    have hge2 : s.heap.objs.size ≤ h'.objs.size := by omega
    have n2 : H h'.objs.size = none := I.hok.fresh hge2
    have hPf : h'.objs.size ≠ P := fun z => by rw [z, hP] at n2; cases n2
    have hcf : h'.objs.size ≠ c' := by omega
    have y2 := I.young hge2
    have I4 := I3.track (p := h'.objs.size) (o := .ext (FnIs h'.objs.size c' (X.env.qual ++ "<lambda>") params body scope)) (by rw [upd_ne hcf, upd_ne hPf]; exact n2) (Heap.get?_none_of_le (Nat.le_trans I.sz hge2)) y2.lo y2.ce y2.pi
      (FnIs.ok ⟨_, ctv, Heap.get?_push_size _ rfl⟩)
    refine ⟨.ref h'.objs.size, _, I4, rfl, q _ c' _ (fun b o hb e => ?_) upd_same ?_ ⟨ps ++ #[rawInt pos.line, rawInt pos.col, .ref c'], ?_, ?_, .inr ⟨c', ?_, ?_⟩⟩⟩
    · rw [upd_ne (ne_of_none e n2), upd_ne (ne_of_none e n1), upd_ne hb]
      exact e
    · rw [upd_ne hcf.symm, upd_same]
    · rw [upd_ne hPf.symm, upd_ne hPc.symm, upd_same]
    · rw [Array.toList_append]
      exact TriplesOk_snoc _ _ _ _ ht
    · rw [Array.toList_append]
      exact codeAmong_snoc _ ht hnf
    · rw [upd_ne hcf.symm, upd_same]
  · refine kla_eval hdef (kla_makeFunctionHit (mg := X.mg) hcl I.ok.glob hg hcode (C.keeps I.bk) hPo ht hf ⟨bm, ob, b1, b2, hbG, nb _ _ b3, I.bk _ _ b3, b4, b5, b6⟩ fun ctv h' tk hk hge => ?_)
    have I1 := I.kept (h' := h'.push (kla_obj "<lambda>" (X.env.qual ++ "<lambda>") params body scope [] ((X.mg "__name__").getD .none) cc ctv)) (t' := tk) fun b u e => Heap.get?_push_of_some _ (hk b u e)
    have n2 : H h'.objs.size = none := I.hok.fresh hge
    have y2 := I.young hge
    have I4 := I1.track (p := h'.objs.size) (o := .ext (FnIs h'.objs.size cc (X.env.qual ++ "<lambda>") params body scope)) n2 (Heap.get?_none_of_le (Nat.le_trans I.sz hge)) y2.lo y2.ce y2.pi
      (FnIs.ok ⟨_, ctv, Heap.get?_push_size _ rfl⟩)
    refine ⟨.ref h'.objs.size, _, I4, rfl, q _ cc _ (fun b o hb e => ?_) upd_same ?_ ⟨ps, ?_, ht, .inr ⟨cc, hf, ?_⟩⟩⟩
    · rw [upd_ne (ne_of_none e n2)]
      exact e
    · rw [upd_ne (ne_of_none hcc n2)]
      exact hcc
    · rw [upd_ne (ne_of_none hP n2)]
      exact hP
    · rw [upd_ne (ne_of_none hcc n2)]
      exact hcc
end
def tSortG (K : Frag) (qual : Str) (params : Arguments) (body : Expr) (scope : Scope) (tL tl : TE) : TE := fun σ H Q => tl σ H fun x H1 => tL σ H1 fun fv H2 =>
  ∃ (l f c : Addr) (xs : List V) (kz : List (Int × Int)) (B : Int), x = .ref l ∧ fv = .ref f ∧ H2 f = some (.ext (FnIs f c qual params body scope)) ∧ H2 c = some (.ext (CdIs c qual)) ∧ SqL K H2 l xs ∧ 0 < xs.length ∧ xs.length < 64 ∧ kz.length = xs.length ∧ (∀ z ∈ kz, 0 ≤ z.2 ∧ z.2 < B) ∧
    (∀ (i : Nat) (x : V) (z : Int × Int), xs[i]? = some x → kz[i]? = some z → ∃ p ys, x = .ref p ∧ H2 p = some (.tup ys) ∧ atI ys 1 = some (.int z.1) ∧ atI ys 0 = some (.int z.2)) ∧
    ∀ (D : Addr) (p : Array Nat) (H' : Hp), Same H2 H' → H' D = none → Srt.Ord xs.length p → Srt.Up (lexKey B kz) p xs.length → Q (.ref D) (upd H' D (.lst (p.toList.map fun i => xs.getD i .non)))
theorem pe_sortG {X : Cx} {l : Expr} {tl tL : TE} {qual : Str} {params : Arguments} {body : Expr} {scope : Scope} {lpos kpos p pos : Pos} (hg : Gl X "sorted") (hm : X.mg "sorted" = none) (hl : PE X l tl) (hlam : PE X (.Lambda params body scope lpos) tL)
    (hr : Room 3 X.A) (S : FnScope ["box"] ["box"] scope) (hb : ∀ (pm ctv : Value) (c : Addr) (u : Value), bindArgs (kla_fn "<lambda>" qual params body scope [] pm (.ref c) ctv) ⟨[u], []⟩ = pure ((["box"] : List Str).zip [u]))
    (hbody : ∀ (f c : Addr) (A : Around) (outer : List Env) (s : Shared) (H : Hp), PE (cxOf CX0 X.prog X.w X.K X.mg X.base ["box"] qual scope f (.ref c) A outer s H E0).nox body (tTup (tCons (tOp (rIxT X.K) (tVar 0) (tC (.int 1))) (tCons (tOp (rIxT X.K) (tVar 0) (tC (.int 0))) tNil))))
    (hs : starEach [l] X.env = [(false, eval l X.env)] := by rfl) :
    PE X (.Call (.Name "sorted" p) [l] [⟨some "key", .Lambda params body scope lpos, kpos⟩] pos) (tSortG X.K qual params body scope tL tl) := by
  intro pins s σ H Q I h
  refine wpAny_Call_Name_kw (ld_blt I hg hm boot_sorted ?_ (by decide) (by decide))
  refine PyProof.Rows.callWith_kw (thn ((pa_cons hl pa_nil hs) pos pins s σ H (fun vs H1 => match vs with
    | [x] => tL σ H1 fun fv H2 => ∃ (l f c : Addr) (xs : List V) (kz : List (Int × Int)) (B : Int), x = .ref l ∧ fv = .ref f ∧ H2 f = some (.ext (FnIs f c qual params body scope)) ∧ H2 c = some (.ext (CdIs c qual)) ∧ SqL X.K H2 l xs ∧ 0 < xs.length ∧ xs.length < 64 ∧ kz.length = xs.length ∧ (∀ z ∈ kz, 0 ≤ z.2 ∧ z.2 < B) ∧
      (∀ (i : Nat) (x : V) (z : Int × Int), xs[i]? = some x → kz[i]? = some z → ∃ p ys, x = .ref p ∧ H2 p = some (.tup ys) ∧ atI ys 1 = some (.int z.1) ∧ atI ys 0 = some (.int z.2)) ∧
      ∀ (D : Addr) (p : Array Nat) (H' : Hp), Same H2 H' → H' D = none → Srt.Ord xs.length p → Srt.Up (lexKey B kz) p xs.length → Q (.ref D) (upd H' D (.lst (p.toList.map fun i => xs.getD i .non)))
    | _ => False) I h) fun us s1 ⟨vs, H1, I1, r1, q1⟩ => ?_) (by rw [hs]; rfl) (by rw [hs]; rfl) rfl rfl
  match vs, q1 with
  | [x], q1 =>
  obtain ⟨u, rfl, ru⟩ := vals1 r1
  refine thn ((pk_cons (nm := some "key") hlam pk_nil) pos pins s1 σ H1 (fun ws H2 => match ws with
    | [fv] => ∃ (l f c : Addr) (xs : List V) (kz : List (Int × Int)) (B : Int), x = .ref l ∧ fv = .ref f ∧ H2 f = some (.ext (FnIs f c qual params body scope)) ∧ H2 c = some (.ext (CdIs c qual)) ∧ SqL X.K H2 l xs ∧ 0 < xs.length ∧ xs.length < 64 ∧ kz.length = xs.length ∧ (∀ z ∈ kz, 0 ≤ z.2 ∧ z.2 < B) ∧
      (∀ (i : Nat) (x : V) (z : Int × Int), xs[i]? = some x → kz[i]? = some z → ∃ p ys, x = .ref p ∧ H2 p = some (.tup ys) ∧ atI ys 1 = some (.int z.1) ∧ atI ys 0 = some (.int z.2)) ∧
      ∀ (D : Addr) (p : Array Nat) (H' : Hp), Same H2 H' → H' D = none → Srt.Ord xs.length p → Srt.Up (lexKey B kz) p xs.length → Q (.ref D) (upd H' D (.lst (p.toList.map fun i => xs.getD i .non)))
    | _ => False) I1 q1) fun us2 s2 ⟨ws, H2, I2, r2, q2⟩ => ?_
  match ws, q2 with
  | [fv], q2 =>
  obtain ⟨u2, rfl, ru2⟩ := vals1 r2
  obtain ⟨la, f, c, xs, kz, B, rfl, rfl, hf, hc, hL, h1, h64, hkz, hB, items, q⟩ := q2
  cases (show u = Value.ref la from ru)
  cases (show u2 = Value.ref f from ru2)
  show wpAny _ _ (call (.builtin "sorted") [.ref la] [(Str.ofString "key", .ref f)]) _ _ _
  refine sorted_pairs I2 hL h1 h64 hkz hB (fun H' => Same H2 H') (Same.refl _) (fun pins' i x v z s' H' hx hz rx I' g' => ?_) fun D p H' s' g' _ hD po pu I' => ⟨.ref D, _, I', rfl, q D p H' g' hD po pu⟩
  obtain ⟨pa, ys, rfl, hp, a1, a0⟩ := items i x z hx hz
  cases (show v = Value.ref pa from rx)
  refine wpAny_mono (lam_call (Q := fun v H'' => ∃ p', v = .ref p' ∧ Same H' H'' ∧ H'' p' = some (.tup [.int z.1, .int z.2])) I' (A := X.A.in1.in1) I'.ok.frames hr.in1.in1 S (g' _ _ hf) (g' _ _ hc) (fun pm ctv => hb pm ctv c _) (show Vals [V.ref pa] [Value.ref pa] from .cons rfl .nil) rfl ⟨_, hbody f c _ _ s' H', ?_⟩) (fun k s'' ⟨v', H'', I'', r'', p', e, S', h'⟩ => ?_) fun _ _ z => z
  · exact ⟨_, rfl, _, _, _, _, rfl, rfl, SqT.of (g' _ _ hp), a1, _, rfl, _, _, _, _, rfl, rfl, SqT.of (g' _ _ hp), a0, by show 2 ≤ sizeLine; decide, fun p' n' => ⟨p', rfl, fun b o e => by rw [upd_ne (ne_of_none e n')]; exact e, upd_same⟩⟩
  · subst e
    cases (show k = Value.ref p' from r'')
    exact ⟨p', H'', rfl, I'', g'.trans S', S', h'⟩
def OnlyTs (Ts : List Addr) (H : Hp) : Prop := (∀ T ∈ Ts, H T = some (.tbl #[])) ∧ ∀ b, H b = none ∨ b ∈ Ts ∨ ∃ o xs, H b = some (.frz o (.lst xs))
theorem law_callTs {P : Program} {w : World} {K : PySem.W.Frag} {mg mb : Str → Option Value} {CX : CXT} {k : Nat} {fa a : Addr} {Ts : List Addr} {fd : FuncData} {x : Str} {sp : Sp} {s₁ : Shared} {vs : List Value} {ns : List Int}
    (KX : K.In s₁.heap) (hns : s₁.heap.Ns mainGlobals mg) (hb : s₁.heap.Ns builtinsNs mb) (hbb : ∀ x : Str, x ≠ "__name__" → mb x = bootBuiltins x) (hlim : s₁.heap.NoLimit) (hg : s₁.gens = #[])
    (ha : s₁.heap.get? a = some { cls := .type "list", data := .seq vs.toArray }) (hi : IntsAre vs ns) (hl : ns.length ≤ sizeLine) (hr : Room k callerA) (hT : ∀ T ∈ Ts, ∃ c, s₁.heap.TableAt c T #[]) (hKT : ∀ T ∈ Ts, K.lookup T = none) (hBM : BMain mg s₁.heap)
    (F : ∀ base : Heap, K.In base → base.Ns mainGlobals mg → BMain mg base → FnOk P w K mg base CX k fa fd [x] sp) (hbind : ∀ (s : Shared) (u : Value), BindsTo s fd ⟨[u], []⟩ [(x, u)])
    (hsp : ∀ H : Hp, OnlyTs Ts H → SqL K H a (ns.map V.int) → sp [.ref a] H (fun v _ => v = .bl true) fun _ _ _ => False)
    (hCX : ∀ H e s', CX [] H s₁ (fun _ _ _ => False) e s' → False) :
    codeAny (model P w) callerA (.call (.ref fa) ⟨[.ref a], []⟩) (fun r s' => r = .ok (.ret (.bool true)) ∧ OldK s₁.heap s'.heap ∧ s'.os = s₁.os ∧ AllBare s'.gens) s₁ := by
  have rv := vals_ints hi
  have lenV := hi.length
  have aT : a ∉ Ts := fun e => by
    obtain ⟨c, z⟩ := hT a e
    have z := z.2
    rw [ha] at z
    cases z
  have core : ∀ H : Hp, OnlyTs Ts H → SqL K H a (ns.map V.int) → HOk P w H s₁.heap → (∀ b, H b ≠ none → b = a ∨ b ∈ Ts) → (H a ≠ none → K.lookup a = none) →
      codeAny (model P w) callerA (.call (.ref fa) ⟨[.ref a], []⟩) (fun r s' => r = .ok (.ret (.bool true)) ∧ OldK s₁.heap s'.heap ∧ s'.os = s₁.os ∧ AllBare s'.gens) s₁ := by
    intro H hO hS hok hA hK
    have base_of : ∀ {b : Addr} {o : Obj}, s₁.heap.get? b = some o → H b = none → (hidT s₁.heap H).get? b = some o := fun e n => hidT_get e n
    have noA : ∀ {b : Addr} {o : Obj}, s₁.heap.get? b = some o → (∀ xs n, o.data ≠ .seq xs n) → (∀ fs, o.data ≠ .fields fs) → H b = none := fun {b o} e d1 d2 => by
      cases q : H b with
      | none => rfl
      | some u =>
        rcases hA b (by rw [q]; simp) with e' | e'
        · subst e'
          rw [ha] at e; cases e
          exact absurd rfl (d1 vs.toArray _)
        · obtain ⟨c, z⟩ := hT b e'
          rw [z.2] at e; cases e
          exact absurd rfl (d2 #[])
    have nsK : ∀ {b : Addr} {m : Str → Option Value}, s₁.heap.Ns b m → (hidT s₁.heap H).Ns b m := fun {b m} ⟨o, es, ep, e, d, r⟩ => ⟨o, es, ep, base_of e (noA e (fun _ _ z => by rw [d] at z; cases z) fun _ z => by rw [d] at z; cases z), d, r⟩
    have hKb : K.In (hidT s₁.heap H) := fun b o e => base_of (KX b o e) (by
      cases q : H b with
      | none => rfl
      | some u =>
        rcases hA b (by rw [q]; simp) with e' | e'
        · subst e'
          rw [hK (by rw [q]; simp)] at e; cases e
        · rw [hKT b e'] at e; cases e)
    have hM : Mod K mg (hidT s₁.heap H) := ⟨hKb, nsK hns, ⟨mb, nsK hb, hbb⟩, let ⟨mc, h1, h2⟩ := hlim; ⟨mc, nsK h1, h2⟩⟩
    have hBM' : BMain mg (hidT s₁.heap H) := by
      obtain ⟨bm, ob, b1, b2, b3, b4, b5, b6⟩ := hBM
      exact ⟨bm, ob, b1, b2, base_of b3 (noA b3 (fun _ _ z => by rw [b6] at z; cases z) fun _ z => by rw [b6] at z; cases z), b4, b5, b6⟩
    have e0 : Env0 P w K mg (hidT s₁.heap H) callerA [] s₁ H := ⟨rfl, hM, fun b o e => of_hidT e, Nat.le_of_eq (hidT_size _ _), trivial, fun b hb => absurd (show b ∈ ([] : List Addr) from hb) (by simp), hok, .of_eq hg⟩
    refine codeAny_mono ((F _ hKb (nsK hns) hBM').run callerA [] s₁ H ⟨[.ref a], []⟩ [.ref a] [.ref a] _ _ hr e0 (hbind s₁ (.ref a)) (.cons rfl .nil) (hsp H hO hS)) fun r s' h => ?_
    cases r with
    | error e => exact (hCX H e s' h).elim
    | ok fl =>
      cases fl with
      | next => exact False.elim h
      | brk => exact False.elim h
      | cont => exact False.elim h
      | ret u =>
        obtain ⟨v, H', os, bare, un, hok', r', q⟩ := h
        have q' : v = .bl true := q
        subst q'
        obtain rfl : u = Value.bool true := r'
        have kp : ∀ b o, b ∉ Ts → s₁.heap.get? b = some o → s'.heap.get? b = some o := fun b o nb e => by
          cases q : H b with
          | none => exact un.keep b o e q (by intro z; exact absurd (show b ∈ ([] : List Addr) from z) (by simp)) (by simp)
          | some u =>
            rcases hO.2 b with z | z | ⟨ob, xs, z⟩
            · rw [q] at z; cases z
            · exact absurd z nb
            · have z2 := un.frzs b ob _ z
              obtain ⟨e1, _⟩ := hok b _ z
              obtain ⟨e2, _⟩ := hok' b _ z2
              rw [e] at e1; cases e1
              exact e2
        have tb : ∀ b ∈ Ts, ∃ more : Array Value, s'.heap.get? b = some { cls := .none, data := .fields (#[] ++ more) } := fun b hb => by
          obtain ⟨more, hm⟩ := un.tbls b #[] (hO.1 b hb)
          exact ⟨more, hok' b _ hm⟩
        refine ⟨rfl, ⟨fun b o e => ?_, fun b o e => ?_⟩, os, bare⟩
        · by_cases hb : b ∈ Ts
          · obtain ⟨c, hc⟩ := hT b hb
            obtain ⟨more, hm⟩ := tb b hb
            obtain rfl : o = { cls := .none, data := .fields #[] } := Option.some.inj (e.symm.trans hc.2)
            exact .inr (.inl ⟨hc.isCodeTable, rfl, #[], more, rfl, hm⟩)
          · exact .inl (kp b o hb e)
        · by_cases hb : b ∈ Ts
          · obtain ⟨more, hm⟩ := tb b hb
            exact ⟨_, hm⟩
          · exact ⟨o, kp b o hb e⟩
  cases hk : K.lookup a with
  | some o =>
    have e := KX a o hk
    rw [ha] at e
    cases e
    refine core (fun b => if b ∈ Ts then some (.tbl #[]) else none) ⟨fun T hT => if_pos hT, fun b => ?_⟩ (.inr ⟨_, vs.toArray, _, hk, rfl, rfl, rfl, by rw [List.size_toArray, lenV]; exact hl, by simpa using rv⟩) (fun b u z => ?_) (fun b z => ?_) fun z => absurd (if_neg aT) z
    · by_cases hb : b ∈ Ts
      · exact .inr (.inl hb)
      · exact .inl (if_neg hb)
    · by_cases hb : b ∈ Ts
      · have z' := (if_pos hb).symm.trans z
        cases z'
        obtain ⟨c, z⟩ := hT b hb
        exact z.2
      · have z' := (if_neg hb).symm.trans z
        cases z'
    · by_cases hb : b ∈ Ts
      · exact .inr hb
      · exact absurd (if_neg hb) z
  | none =>
    refine core (fun b => if b ∈ Ts then some (.tbl #[]) else if b = a then some (.frz { cls := .type "list", data := .seq vs.toArray } (.lst (ns.map V.int))) else none) ⟨fun T hT => if_pos hT, fun b => ?_⟩ (.inl (.inr ⟨{ cls := .type "list", data := .seq vs.toArray }, by simp [aT]⟩)) (fun b u z => ?_) (fun b z => ?_) fun _ => hk
    · by_cases hb : b ∈ Ts
      · exact .inr (.inl hb)
      · by_cases hb' : b = a
        · exact .inr (.inr ⟨_, _, (if_neg hb).trans (if_pos hb')⟩)
        · exact .inl ((if_neg hb).trans (if_neg hb'))
    · by_cases hb : b ∈ Ts
      · have z' := (if_pos hb).symm.trans z
        cases z'
        obtain ⟨c, z⟩ := hT b hb
        exact z.2
      · have z' := (if_neg hb).symm.trans z
        by_cases hb' : b = a
        · have z2 := (if_pos hb').symm.trans z'
          cases z2
          subst hb'
          exact ⟨ha, by rw [List.length_map]; exact hl, vs, _, rv, ha⟩
        · have z2 := (if_neg hb').symm.trans z'
          cases z2
    · by_cases hb : b ∈ Ts
      · exact .inr hb
      · by_cases hb' : b = a
        · exact .inl hb'
        · exact absurd ((if_neg hb).trans (if_neg hb')) z
theorem walk_ofTT {l : PySem.W.OpenLaw} {n k : Nat} {q : Program} {loose : List Str} {XP : (Str → Option Value) → Heap → Prop} {YP : World → Heap → Prop} {d : DefRec} {K : Params → PySem.W.Frag} {CX : World → CXT} {T c T' c' : Addr} {sp : World → Sp} {x x1 x2 : Str}
    (hn : l.most = some n) (hn2 : n ≤ sizeLine) (hdf : d.params.defaults = []) (hr : Room k callerA)
    (hY : ∀ (w : World) (h : Heap), YP w h → (K w.params).In h) (hrec : ((recsOf q).find? (fun e => e.name == x1)).isSome = true) (htab : ∀ w : World, PySem.W.tabIn (K w.params) x1 = some (c, T)) (hKT : ∀ w : World, (K w.params).lookup T = none)
    (hrec2 : ((recsOf q).find? (fun e => e.name == x2)).isSome = true) (htab2 : ∀ w : World, PySem.W.tabIn (K w.params) x2 = some (c', T')) (hKT2 : ∀ w : World, (K w.params).lookup T' = none)
    (F : ∀ (w : World) (mg : Str → Option Value) (fa : Addr) (h : Heap), (K w.params).In h → h.Ns mainGlobals mg → mg d.name = some (.ref fa) → PySem.W.CodeHd h c T → PySem.W.CodeHd h c' T' →
      ∃ fd : FuncData, (∀ (s : Shared) (u : Value), BindsTo s fd ⟨[u], []⟩ [(x, u)]) ∧
        ∀ base : Heap, (K w.params).In base → base.Ns mainGlobals mg → BMain mg base → FnOk l.prog w (K w.params) mg base (CX w) k fa fd [x] (sp w))
    (hsp : ∀ (w : World) (H : Hp) (a : Addr) (ns : List Int), ns.length ≤ n → H T = some (.tbl #[]) → H T' = some (.tbl #[]) → SqL (K w.params) H a (ns.map V.int) → sp w [.ref a] H (fun v _ => v = .bl true) fun _ _ _ => False)
    (hCX : ∀ (w : World) (H : Hp) (s : Shared) (e : Value) (s' : Shared), CX w [] H s (fun _ _ _ => False) e s' → False) :
    PySem.W.WalkO q loose XP YP l.row.toRowW d [] (fun f vs => PySem.call f vs) := by
  obtain ⟨d1, hd1⟩ := Option.isSome_iff_exists.mp hrec
  have hn1 : d1.name = x1 := beq_iff_eq.mp (List.find?_some (p := fun e : DefRec => e.name == x1) hd1)
  obtain ⟨d2, hd2⟩ := Option.isSome_iff_exists.mp hrec2
  have hn2' : d2.name = x2 := beq_iff_eq.mp (List.find?_some (p := fun e : DefRec => e.name == x2) hd2)
  subst hn1 hn2'
  refine Att.attach_call hn hdf fun w s₀ s₁ mg mb fa o pm cd doc a vs ns G Y ho hd hcd hmg hobj hints hlen hg => ?_
  have KX := hY w _ Y
  obtain ⟨hCd, hTo⟩ := PySem.W.tab_of G.T KX hd1 (htab w)
  obtain ⟨hCd2, hTo2⟩ := PySem.W.tab_of G.T KX hd2 (htab2 w)
  obtain ⟨fd, hb, hF⟩ := F w mg fa _ KX G.T.g hmg hCd hCd2
  refine law_callTs (Ts := [T, T']) KX G.T.g G.T.b G.T.builtins G.T.nolimit hg hobj hints (Nat.le_trans hlen hn2) hr (fun t ht => ?_) (fun t ht => ?_) G.T.bmain hF hb (fun H hO hS => hsp w H a ns hlen (hO.1 T (by simp)) (hO.1 T' (by simp)) hS) fun H e s' => hCX w H s₁ e s'
  · rcases List.mem_cons.mp ht with rfl | ht
    · exact ⟨c, hCd.tab hTo⟩
    · rcases List.mem_cons.mp ht with rfl | ht
      · exact ⟨c', hCd2.tab hTo2⟩
      · cases ht
  · rcases List.mem_cons.mp ht with rfl | ht
    · exact hKT w
    · rcases List.mem_cons.mp ht with rfl | ht
      · exact hKT2 w
      · cases ht
end L2
set_option Elab.async false
set_option linter.all false
set_option maxRecDepth 100000
namespace L2
open PySem PySem.Spec PyProof.Rows PySem.W
end L2
set_option Elab.async false
set_option linter.all false
set_option maxRecDepth 100000
set_option maxHeartbeats 4000000
namespace L2
open PySem PySem.Spec PyProof.Rows
section
variable {κ : Type} [DecidableEq κ]
def valV (kvs : List (κ × V)) (k : κ) : Option V := (kvs.find? fun kv => decide (kv.1 = k)).map (·.2)
def putK (kvs : List (κ × V)) (k : κ) (v : V) : List (κ × V) :=
  if (kvs.any fun kv => decide (kv.1 = k)) = true then kvs.map (fun kv => if kv.1 = k then (kv.1, v) else kv) else kvs ++ [(k, v)]
theorem valV_pos {p : κ × V} {r : List (κ × V)} {k : κ} (e : p.1 = k) : valV (p :: r) k = some p.2 := by simp [valV, List.find?_cons, e]
theorem valV_neg {p : κ × V} {r : List (κ × V)} {k : κ} (e : ¬ p.1 = k) : valV (p :: r) k = valV r k := by simp [valV, List.find?_cons, e]
theorem valV_any (k : κ) : ∀ kvs : List (κ × V), (kvs.any fun kv => decide (kv.1 = k)) = (valV kvs k).isSome
  | [] => rfl
  | p :: r => by
    rw [List.any_cons]
    by_cases e : p.1 = k
    · simp only [valV_pos e, decide_eq_true e, Bool.true_or, Option.isSome_some]
    · rw [valV_neg e, decide_eq_false e, Bool.false_or]; exact valV_any k r
theorem length_putK (kvs : List (κ × V)) (k : κ) (v : V) : (putK kvs k v).length ≤ kvs.length + 1 := by
  unfold putK
  split
  · rw [List.length_map]; omega
  · rw [List.length_append, List.length_cons, List.length_nil]; omega
theorem RelO.isSome_eq {o : Option V} {u : Option Value} (r : RelO o u) : o.isSome = u.isSome := by
  cases o with
  | none => cases u with
    | none => rfl
    | some _ => exact (show False from r).elim
  | some _ => cases u with
    | none => exact (show False from r).elim
    | some _ => rfl
theorem KV.any {kvs : List (κ × V)} {vs : List (κ × Value)} (r : KV kvs vs) (k : κ) : (kvs.any fun kv => decide (kv.1 = k)) = vs.any fun kv => decide (kv.1 = k) := by
  unfold KV at r
  induction r with
  | nil => rfl
  | cons h t ih => rw [List.any_cons, List.any_cons, ih, h.1]
theorem KV.repl {kvs : List (κ × V)} {vs : List (κ × Value)} (r : KV kvs vs) (k : κ) {y : V} {u : Value} (ry : RelV y u) :
    KV (kvs.map fun kv => if kv.1 = k then (kv.1, y) else kv) (vs.map fun kv => if kv.1 = k then (kv.1, u) else kv) := by
  unfold KV at r ⊢
  induction r with
  | nil => exact .nil
  | @cons p q ps qs h t ih =>
    rw [List.map_cons, List.map_cons]
    refine .cons ?_ ih
    obtain ⟨h1, h2⟩ := h
    by_cases e : p.1 = k
    · rw [if_pos e, if_pos (h1.symm.trans e)]; exact ⟨h1, ry⟩
    · rw [if_neg e, if_neg (fun z => e (h1.trans z))]; exact ⟨h1, h2⟩
theorem KV.put {kvs : List (κ × V)} {vs : List (κ × Value)} (r : KV kvs vs) (k : κ) {y : V} {u : Value} (ry : RelV y u) : KV (putK kvs k y) (stored vs k u) := by
  unfold putK stored
  rw [r.any k]
  by_cases e : (vs.any fun kv => decide (kv.1 = k)) = true
  · rw [if_pos e, if_pos e]; exact r.repl k ry
  · rw [if_neg e, if_neg e]; exact Paired.snoc r ⟨rfl, ry⟩
theorem KV.length {kvs : List (κ × V)} {vs : List (κ × Value)} (r : KV kvs vs) : kvs.length = vs.length := Paired.length r
end
theorem kV_is {P : Program} {w : World} {k : Key} {u : Value} (r : RelV (kV k) u) : (mixKind P w).is k u = true := by
  cases k with
  | inl i => obtain ⟨t, e⟩ := (show ∃ t, u = Value.int i t from r); subst e; exact mixKind_int P w i t
  | inr x => obtain ⟨t, e⟩ := (show ∃ t, u = Value.str x t from r); subst e; exact mixKind_str P w x t
theorem items_are {P : Program} {w : World} : ∀ {ks : List Key} {us : List Value}, Vals (ks.map kV) us → ItemsAre (mixKind P w) ks us
  | [], _, r => by rw [List.map_nil] at r; cases r; exact .nil
  | k :: ks, _, r => by
    rw [List.map_cons] at r
    cases r with
    | cons h t => exact .cons (kV_is h) (items_are t)
abbrev KT (H : Hp) : List (List Key × V) → List (List Key × Addr × Value) → Prop := Paired fun p q => p.1 = q.1 ∧ H q.2.1 = some (.tup (p.1.map kV)) ∧ RelV p.2 q.2.2
theorem KT.val {H : Hp} {kvs : List (List Key × V)} {xs : List (List Key × Addr × Value)} (r : KT H kvs xs) (k : List Key) : RelO (valV kvs k) ((atKey xs k).map (·.2)) := by
  induction r with
  | nil => exact True.intro
  | @cons p q ps qs h t ih =>
    obtain ⟨h1, _, h2⟩ := h
    by_cases e : p.1 = k
    · have e' : q.1 = k := h1.symm.trans e
      have b : atKey (q :: qs) k = some q.2 := by simp [atKey, List.find?_cons, e']
      rw [valV_pos e, b]; exact h2
    · have e' : ¬ q.1 = k := fun z => e (h1.trans z)
      have b : atKey (q :: qs) k = atKey qs k := by simp [atKey, List.find?_cons, e']
      rw [valV_neg e, b]; exact ih
theorem KT.repl {H : Hp} {kvs : List (List Key × V)} {xs : List (List Key × Addr × Value)} (r : KT H kvs xs) (k : List Key) {y : V} {u : Value} (ry : RelV y u) :
    KT H (kvs.map fun kv => if kv.1 = k then (kv.1, y) else kv) (xs.map (putAt k u)) := by
  induction r with
  | nil => exact .nil
  | @cons p q ps qs h t ih =>
    rw [List.map_cons, List.map_cons]
    refine .cons ?_ ih
    obtain ⟨h1, h2, h3⟩ := h
    unfold putAt
    by_cases e : p.1 = k
    · rw [if_pos e, if_pos (h1.symm.trans e)]; exact ⟨h1, h2, ry⟩
    · rw [if_neg e, if_neg (fun z => e (h1.trans z))]; exact ⟨h1, h2, h3⟩
theorem KT.put {H : Hp} {kvs : List (List Key × V)} {xs : List (List Key × Addr × Value)} (r : KT H kvs xs) (k : List Key) {b : Addr} {y : V} {u : Value} (hb : H b = some (.tup (k.map kV))) (ry : RelV y u) :
    KT H (putK kvs k y) (storedH xs k b u) := by
  have e : (kvs.any fun kv => decide (kv.1 = k)) = (atKey xs k).isSome := by
    rw [valV_any, (r.val k).isSome_eq, Option.isSome_map]
  unfold putK storedH
  rw [e]
  by_cases q : (atKey xs k).isSome = true
  · rw [if_pos q, if_pos q]; exact r.repl k ry
  · rw [if_neg q, if_neg q]; exact Paired.snoc r ⟨rfl, hb, ry⟩
theorem KT.keeps {H H' : Hp} {kvs : List (List Key × V)} {xs : List (List Key × Addr × Value)} (r : KT H kvs xs) (ht : ∀ b ys, H b = some (.tup ys) → H' b = some (.tup ys)) : KT H' kvs xs :=
  Paired.mapP r fun _ _ z => ⟨z.1, ht _ _ z.2.1, z.2.2⟩
section
variable {P : Program} {w : World} {H : Hp} {h : Heap} {a : Addr}
theorem rd_of {u : HO} (ok : HOk P w H h) (e : Rd H a u) : ObjOk P w H h a u := e.ok ok
theorem dk_rd {kvs : List (Key × V)} (ok : HOk P w H h) (e : Rd H a (.dK kvs)) : kvs.length ≤ sizeLine ∧ (a == sysModules) = false ∧ ∃ vs, KV kvs vs ∧ h.DictOf (mixKind P w) a vs :=
  show ObjOk P w H h a (.dK kvs) from rd_of ok e
theorem dk_of {kvs : List (Key × V)} (ok : HOk P w H h) (e : H a = some (.dK kvs)) : kvs.length ≤ sizeLine ∧ (a == sysModules) = false ∧ ∃ vs, KV kvs vs ∧ h.DictOf (mixKind P w) a vs := dk_rd ok (.inl e)
theorem key_of {ks : List Key} (ok : HOk P w H h) (e : H a = some (.tup (ks.map kV))) : (tupleKind (mixKind P w)).is h ks a := by
  obtain ⟨_, its, r, o, h1, h2, n, h3⟩ := (show ObjOk P w H h a (.tup (ks.map kV)) from ok a _ e)
  exact ⟨o, its.toArray, n, h1, h2, h3, by simpa using items_are r⟩
theorem dt_rd {kvs : List (List Key × V)} (ok : HOk P w H h) (e : Rd H a (.dT kvs)) : kvs.length ≤ sizeLine ∧ (a == sysModules) = false ∧
    ∃ xs, KT H kvs xs ∧ h.DictOfH (tupleKind (mixKind P w)) a xs := by
  obtain ⟨z, y, xs, r, o, es, ep, h1, h2, h3, h4, h5⟩ := (show ObjOk P w H h a (.dT kvs) from rd_of ok e)
  refine ⟨z, y, xs, r, o, es, ep, h1, h2, h3, h4, fun x hx => ?_, h5⟩
  have all : ∀ {l : List (List Key × V)} {m : List (List Key × Addr × Value)}, KT H l m → ∀ x ∈ m, (tupleKind (mixKind P w)).is h x.1 x.2.1 := by
    intro l m q
    induction q with
    | nil => intro x hx; exact nomatch hx
    | @cons p q ps qs hq t ih =>
      intro x hx
      rcases List.mem_cons.mp hx with e | hx
      · subst e
        exact key_of ok (by rw [← hq.1]; exact hq.2.1)
      · exact ih x hx
  exact all r x hx
theorem dt_of {kvs : List (List Key × V)} (ok : HOk P w H h) (e : H a = some (.dT kvs)) : kvs.length ≤ sizeLine ∧ (a == sysModules) = false ∧
    ∃ xs, KT H kvs xs ∧ h.DictOfH (tupleKind (mixKind P w)) a xs := dt_rd ok (.inl e)
end
def DPut (H : Hp) (a : Addr) (y v : V) (H' : Hp) : Prop :=
  (∃ kvs k, H a = some (.dK kvs) ∧ y = kV k ∧ kvs.length < sizeLine ∧ H' = upd H a (.dK (putK kvs k v))) ∨
  ∃ kvs k b, H a = some (.dT kvs) ∧ y = .ref b ∧ H b = some (.tup (k.map kV)) ∧ kvs.length < sizeLine ∧ H' = upd H a (.dT (putK kvs k v))
theorem DPut.t {H : Hp} {a b : Addr} {kvs : List (List Key × V)} {k : List Key} {v : V} (e : H a = some (.dT kvs)) (eb : H b = some (.tup (k.map kV))) (hl : kvs.length < sizeLine) :
    DPut H a (.ref b) v (upd H a (.dT (putK kvs k v))) := .inr ⟨kvs, k, b, e, rfl, eb, hl, rfl⟩
section
variable {X : Cx} {pins : List (Addr × Obj)} {σ : St} {H : Hp} {s : Shared} {a : Addr} {y v : V} {u r : Value} {o : Option V} {A : Around} {E : Value → Shared → Prop}
theorem Inv.big (I : Inv X pins σ H s) : sysModules < s.heap.objs.size := by
  have h : mainGlobals < s.heap.objs.size := (I.mod.glob.keeps I.bk).lt
  exact Nat.lt_trans (by decide) h
theorem d_write {h' : Heap} {t' : Nat} {ob : HO} (I : Inv X pins σ H s) (mu : Mut (H a)) (hs : Heap.SameBut a s.heap h') (he : ∃ q, h'.get? a = some q) (new : ObjOk X.prog X.w (upd H a ob) h' a ob) :
    Inv X pins σ (upd H a ob) { s with heap := h', toks := t' } :=
  I.write (x := a) (e := a) mu (.inl rfl) (fun b q hb z => (hs.2 b hb).trans z) he new
theorem dk_new {P : Program} {w : World} {H' : Hp} {h' : Heap} {kvs : List (Key × V)} {vs : List (Key × Value)} (z : kvs.length ≤ sizeLine) (hd : (a == sysModules) = false) (rel : KV kvs vs) (dd : h'.DictOf (mixKind P w) a vs) :
    ObjOk P w H' h' a (.dK kvs) := ⟨z, hd, vs, rel, dd⟩
theorem d_setItem {H' : Hp} {Q : Unit → Shared → Prop} (hu : A.units + 1 < cLine) (I : Inv X pins σ H s) (g : DPut H a y v H') (ry : RelV y u) (rv : RelV v r) (h : ∀ s', Inv X pins σ H' s' → Q () s') :
    wpAny (model X.prog X.w) A (setItem (.ref a) u r) Q E s := by
  rcases g with ⟨kvs, k, e, ey, l, eH⟩ | ⟨kvs, k, b, e, ey, eb, l, eH⟩
  · subst ey eH
    obtain ⟨z, hd, vs, rel, dd⟩ := dk_of I.hok e
    have hz : vs.length ≤ sizeLine := by rw [← rel.length]; exact z
    have hl : (putK kvs k v).length ≤ sizeLine := by have := length_putK kvs k v; omega
    refine wpAny_setItem_pairs (hsz := hz) (kV_is ry) dd fun h' dd' hs => h _ ?_
    have he : ∃ q, h'.get? a = some q := let ⟨q, _, _, hq, _⟩ := dd'; ⟨q, hq⟩
    exact d_write I (by rw [e]; exact True.intro) hs he (dk_new hl hd (rel.put k rv) dd')
  · subst ey eH
    cases (show u = Value.ref b from ry)
    obtain ⟨z, hd, xs, rel, dd⟩ := dt_of I.hok e
    have hz : xs.length ≤ sizeLine := by rw [← Paired.length rel]; exact z
    have hl : (putK kvs k v).length ≤ sizeLine := by have := length_putK kvs k v; omega
    refine wpAny_setItem_heap (hsz := hz) (tupleKind_room_in1 hu) (key_of I.hok eb) dd fun h' dd' hs => h _ ?_
    obtain ⟨q, es, ep, hq, h2, h3, h4, _, h5⟩ := dd'
    refine d_write I (by rw [e]; exact True.intro) hs ⟨q, hq⟩ ⟨hl, hd, _, (rel.put k eb rv).keeps fun c ys ec => ?_, q, es, ep, hq, h2, h3, h4, h5⟩
    rw [upd_ne (ne_of ec e (fun z => nomatch z))]
    exact ec
end
def sDPut (td ty tv : TE) : TS := fun D σ H => tv σ H fun v H1 => td σ H1 fun x H2 => ty σ H2 fun y H3 => ∃ a H4, x = .ref a ∧ DPut H3 a y v H4 ∧ D.nx σ H4
section
variable {X : Cx} {o i e value : Expr} {pos pos' tpos : Pos} {td ty tv : TE}
theorem ps_dput (hu : X.A.units + 1 < cLine) (ho : PE X o td) (hi : PE X i ty) (hv : PE X value tv) (hs : swapsWith value (some (.Subscript o i pos')) pos.line X.env = pure false) :
    PS X (.Assign [.Subscript o i pos'] value pos) (sDPut td ty tv) := by
  intro pins s σ H D I h
  refine wpAny_Assign_Subscript (thn (hv pins s σ H _ I h) fun r s1 ⟨v, H1, I1, rv, q1⟩ => thn (ho pins s1 σ H1 _ I1 q1) fun u s2 ⟨x, H2, I2, rx, q2⟩ => thn (hi pins s2 σ H2 _ I2 q2) fun iv s3 ⟨y, H3, I3, ry, a, H4, ex, g, q3⟩ => ?_) hs
  subst ex
  obtain rfl : u = Value.ref a := rx
  exact d_setItem hu I3 g ry rv fun s4 I4 => ⟨σ, H4, I4, q3⟩
end
theorem dt_empty {P : Program} {w : World} {H : Hp} (h : Heap) (hb : sysModules < h.objs.size) : ObjOk P w H (h.push { cls := .type "dict", data := .dict #[] }) h.objs.size (.dT []) :=
  ⟨Nat.zero_le _, beq_eq_false_iff_ne.mpr (Ne.symm (Nat.ne_of_lt hb)), [], .nil, _, #[], 0, Heap.get?_push_size _ rfl, ⟨rfl, rfl, rfl⟩, rfl, rfl, List.nodup_nil⟩
def tDNewT : TE := fun _ H Q => ∀ p, H p = none → Q (.ref p) (upd H p (.dT []))
section
variable {X : Cx} {pos : Pos}
theorem pe_dnewT : PE X (.Dict [] [] pos) tDNewT := fun pins s σ H Q I h =>
  wpAny_Dict_empty ⟨.ref s.heap.objs.size, _, I.laid (a := s.heap.objs.size) (o := .dT []) (t' := s.toks) (fun _ _ q => Heap.get?_push_of_some _ q) (Nat.le_refl _) (dt_empty s.heap I.big), rfl, h _ (I.hok.fresh (Nat.le_refl _))⟩
end
section
variable {κ : Type} [DecidableEq κ]
theorem valV_not {kvs : List (κ × V)} {k : κ} (h : valV kvs k = none) : ¬ k ∈ kvs.map (·.1) := by
  intro m
  obtain ⟨p, hp, e⟩ := List.mem_map.mp m
  have q : (kvs.any fun kv => decide (kv.1 = k)) = true := List.any_eq_true.mpr ⟨p, hp, decide_eq_true e⟩
  rw [valV_any, h] at q
  exact absurd q (by simp)
theorem valV_in {kvs : List (κ × V)} {k : κ} {v : V} (h : valV kvs k = some v) : k ∈ kvs.map (·.1) := by
  have q : (kvs.any fun kv => decide (kv.1 = k)) = true := by
    rw [valV_any, h]
    all_goals rfl
  obtain ⟨p, hp, e⟩ := List.any_eq_true.mp q
  exact List.mem_map.mpr ⟨p, hp, of_decide_eq_true e⟩
end
end L2
set_option Elab.async false
set_option linter.all false
set_option maxRecDepth 100000
namespace L2
open PySem PySem.Spec PyProof.Rows PySem.W
section
variable {prog : Program} {w : World} {A : Around} {E : Value → Shared → Prop} {s : Shared} {it d : Addr} {i n ep : Nat} {es : Array DictEntry} {od : Obj}
theorem ent_item {Q : Option Value → Shared → Prop} (hit : s.heap.IsKeyIter it d i n ep) (hod : s.heap.get? d = some od) (hdd : od.data = .dict es ep) (hn : es.size = n) (hi : i < es.size)
    (q : ∀ h', h'.IsKeyIter it d (i + 1) n ep → Heap.SameBut it s.heap h' → Q (some es[i].key) { s with heap := h' }) : wpAny (model prog w) A (pyNext (.ref it)) Q E s := by
  obtain ⟨oI, hoI, hcI, hfI⟩ := id hit
  subst hn
  unfold pyNext
  refine wpAny_bind (wpAny_attempt (wpAny_callSpecial?_slot (name := Str.ofString "__next__") hit.typeIs F.slot_dict_keyiterator_next (wpAny_call_entry F.slot_dict_keyiterator_next hit.typeIs F.entry_dict_keyiterator_next ?_ (F.args_dict_keyiterator_next_1 _))))
  refine wpAny_bind (wpAny_pure (wpAny_bind (wpAny_bind (wpAny_bind (wpAny_typeNameOfWhole_keyiter hit.typeIs (wpAny_pure ?_))))))
  refine wpAny_bind (wpAny_fieldsOf hoI hfI ?_)
  rw [show Builtin.Dict_items.ownsTuple "dict_keyiterator" = false from rfl]; show wpAny _ _ (if (Value.ref d == Value.none) = true then _ else _) _ _ s
  refine (if_neg (Bool.false_ne_true) : (if (Value.ref d == Value.none) = true then _ else _) = _) ▸ ?_
  refine wpAny_bind (wpAny_pure (wpAny_bind (wpAny_dictEntries hod hdd ?_)))
  rw [if_neg (show ¬ (((es.size : Int) != (es.size : Int)) = true) by simp)]
  refine wpAny_bind (wpAny_pure (wpAny_bind (wpAny_dictEpoch hod hdd ?_)))
  rw [if_neg (show ¬ (((ep : Int) != (ep : Int)) = true) by simp)]
  refine wpAny_pure ?_
  simp only [show ¬ ((i : Int) < 0) by omega, if_false, Int.toNat_natCast, Array.getElem?_eq_getElem hi]
  refine wpAny_bind (wpAny_bind (wpAny_typeNameOfWhole_keyiter hit.typeIs (wpAny_pure ?_)))
  refine wpAny_bind (wpAny_isOneOf_keyiter hit.typeIs ?_); show wpAny _ _ (setField (.ref it) 1 (rawInt ((i : Int) + 1)) >>= _) _ _ s; refine wpAny_bind (wpAny_setField hoI hfI (by simp) ?_)
  have hit2 : (s.heap.update it (Obj.mapFields (·.setIfInBounds 1 (rawInt ((i : Int) + 1))))).IsKeyIter it d (i + 1) es.size ep := by
    refine ⟨_, Heap.get?_update_self _ hoI (Obj.isFreed_of_fields (Obj.data_mapFields hfI _)), (Obj.cls_mapFields ..).trans hcI, ?_⟩
    rw [Obj.data_mapFields hfI]
    simp [rawInt]
  refine wpAny_bind (wpAny_holding (wpAny_bind (wpAny_isOneOf_keyiter (s := { s with heap := s.heap.update it (Obj.mapFields (·.setIfInBounds 1 (rawInt ((i : Int) + 1)))) }) hit2.typeIs ?_)))
  show wpAny _ _ (pure es[i].key) _ _ _; exact wpAny_pure (wpAny_pure ⟨_, rfl, wpAny_pure (q _ hit2 (Heap.SameBut.update ..))⟩)
theorem ent_end {Q : Option Value → Shared → Prop} (hh : A.handled = none) (hit : s.heap.IsKeyIter it d i n ep) (hod : s.heap.get? d = some od) (hdd : od.data = .dict es ep) (hn : es.size = n) (hi : es.size ≤ i)
    (q : ∀ h', Heap.ExtBut it s.heap h' → Q none { s with heap := h' }) : wpAny (model prog w) A (pyNext (.ref it)) Q E s := by
  obtain ⟨oI, hoI, hcI, hfI⟩ := id hit
  subst hn
  unfold pyNext
  refine wpAny_bind (wpAny_attempt (wpAny_callSpecial?_slot (name := Str.ofString "__next__") hit.typeIs F.slot_dict_keyiterator_next (wpAny_call_entry F.slot_dict_keyiterator_next hit.typeIs F.entry_dict_keyiterator_next ?_ (F.args_dict_keyiterator_next_1 _))))
  refine wpAny_bind (wpAny_pure (wpAny_bind (wpAny_bind (wpAny_bind (wpAny_typeNameOfWhole_keyiter hit.typeIs (wpAny_pure ?_))))))
  refine wpAny_bind (wpAny_fieldsOf hoI hfI ?_)
  rw [show Builtin.Dict_items.ownsTuple "dict_keyiterator" = false from rfl]; show wpAny _ _ (if (Value.ref d == Value.none) = true then _ else _) _ _ s
  refine (if_neg (Bool.false_ne_true) : (if (Value.ref d == Value.none) = true then _ else _) = _) ▸ ?_
  refine wpAny_bind (wpAny_pure (wpAny_bind (wpAny_dictEntries hod hdd ?_)))
  rw [if_neg (show ¬ (((es.size : Int) != (es.size : Int)) = true) by simp)]
  refine wpAny_bind (wpAny_pure (wpAny_bind (wpAny_dictEpoch hod hdd ?_)))
  rw [if_neg (show ¬ (((ep : Int) != (ep : Int)) = true) by simp)]
  refine wpAny_pure ?_
  simp only [show ¬ ((i : Int) < 0) by omega, if_false, Int.toNat_natCast, Array.getElem?_eq_none hi]
  refine wpAny_bind (wpAny_bind (wpAny_typeNameOfWhole_keyiter hit.typeIs (wpAny_pure ?_)))
  show wpAny _ _ (setField (.ref it) 0 .none >>= _) _ _ s; refine wpAny_bind (wpAny_setField hoI hfI (by simp) ?_)
  refine wpAny_bind ?_
  simp only [newExc, newTuple]
  refine wpAny_bind (wpAny_newObj_type (wpAny_bind (m := firstArgMember _ _) (wpAny_of_eq (a := Value.none) (by first | rfl | (simp only [firstArgMember]; rfl)) (wpAny_newObj_type ?_ (by size_fits)))) (by size_fits))
  simp only [raiseNew]
  refine wpAny_bind (wpAny_handled ?_); rw [show A.in1.handled = none from hh]; refine wpAny_bind (wpAny_pure (wpAny_throw ?_))
  refine wpAny_bind (wpAny_isInstance (T := "StopIteration") (b := true) ⟨_, Heap.get?_push_size _ rfl, rfl⟩ isSubtype_stop (wpAny_pure ?_))
  exact q _ (((Heap.SameBut.update ..).extBut.push _).push _)
theorem ent_iter {Q : Value → Shared → Prop} (lo : (d == sysModules) = false) (hod : s.heap.get? d = some od) (hx : od.ExactDict) (hdd : od.data = .dict es ep)
    (q : Q (.ref s.heap.objs.size) { s with heap := s.heap.push { cls := .type "dict_keyiterator", data := .fields #[.ref d, .int 0 0, .int es.size 0, .int ep 0] } }) : wpAny (model prog w) A (pyIter (.ref d)) Q E s := by
  have hTd : s.TypeIs (.ref d) "dict" := ⟨od, hod, hx.1⟩
  refine wpAny_pyIter_slot hTd F.slot_dict_iter (wpAny_call_entry F.slot_dict_iter hTd F.entry_dict_iter ?_ (F.args_dict_iter_1 _))
  unfold Builtin.«dict.__iter__» Builtin.Dict.dictSlotNone
  refine wpAny_bind (wpAny_bind (wpAny_notOrdered_dict hTd ?_))
  show wpAny _ _ (pure (Value.ref d)) _ _ s; refine wpAny_pure ?_
  show wpAny _ _ (Builtin.Dict.showsAll d >>= _) _ _ s; unfold Builtin.Dict.showsAll
  rw [if_neg (show ¬ ((d == sysModules) = true) by rw [lo]; exact Bool.false_ne_true)]
  refine wpAny_bind (wpAny_pure (wpAny_bind (wpAny_dictEntries hod hdd (wpAny_bind (wpAny_dictEpoch hod hdd ?_)))))
  refine wpAny_bind (wpAny_newObj_type (wpAny_pure ⟨_, rfl, "dict_keyiterator", _, ⟨_, Heap.get?_push_size _ rfl, rfl⟩, F.slot_dict_keyiterator_next.lookup, by simpa [rawInt] using q⟩))
def DEnt (d : Addr) (es : Array DictEntry) (ep : Nat) (h : Heap) : Prop := ∃ od, h.get? d = some od ∧ od.ExactDict ∧ od.data = .dict es ep
theorem ent_walks (hh : A.handled = none) (I : Addr) (hne : d ≠ I) : Walks prog w A I [I, d] [I] es.size (fun i v => ∃ e, es[i]? = some e ∧ v = e.key) (fun i h => h.IsKeyIter I d i es.size ep ∧ DEnt d es ep h) where
  sub := fun c hc' => by simp at hc'; simp [hc']
  frame := fun _ _ _ st hk => ⟨st.1.at fun o e => hk I (by simp) o e, let ⟨od, a, r⟩ := st.2; ⟨od, hk d (by simp) od a, r⟩⟩
  item := fun i s1 Q E hi st hQ => by
    obtain ⟨od, hod, hx, hdd⟩ := id st.2
    refine ent_item st.1 hod hdd rfl hi fun h' hit' hs' => ?_
    exact hQ _ h' s1.toks ⟨_, Array.getElem?_eq_getElem hi, rfl⟩ ⟨hit', od, (hs'.2 d hne).trans hod, hx, hdd⟩ fun b o hb e => hs'.extBut b o (fun z => hb (by simp [z])) e
  done := fun s Q E st hQ => by
    obtain ⟨od, hod, hx, hdd⟩ := id st.2
    exact ent_end hh st.1 hod hdd rfl (Nat.le_refl _) fun h' he => hQ h' s.toks fun b o hb e => he b o (fun z => hb (by simp [z])) e
  self := fun _ _ _ _ sn hQ => wpAny_pyIter_keyiter sn.1 hQ
theorem ent_src (lo : (d == sysModules) = false) : KdlSrc prog w "dict" d d es.size (fun i v => ∃ e, es[i]? = some e ∧ v = e.key) (DEnt d es ep) where
  type := fun s h => let ⟨od, a, x, _⟩ := h; ⟨od, a, x.1⟩
  there := fun h ⟨_, a, _⟩ => ⟨Heap.lt_size a, Heap.lt_size a⟩
  keep := fun _ _ ⟨od, a, r⟩ hk => ⟨od, hk d (.inl rfl) od a, r⟩
  notList := by decide
  notTuple := by decide
  hint := fun _ _ s _ h q => kdl_hint_dict (let ⟨od, a, x, _⟩ := h; ⟨od, a, x.1⟩) q
  iter := fun A s hh h => by
    obtain ⟨od, hod, hx, hdd⟩ := id h
    exact ⟨_, _, (fun _ _ hq => ent_iter lo hod hx hdd hq), ent_walks hh _ (Nat.ne_of_lt (Heap.lt_size hod)), ⟨_, Heap.get?_push_size _ rfl, rfl, rfl⟩, od, Heap.get?_push_of_some _ hod, hx, hdd⟩
end
end L2
set_option Elab.async false
set_option linter.all false
set_option maxRecDepth 100000
namespace L2
open PySem PySem.Spec PyProof.Rows PySem.W
section
variable {X : Cx} {pins : List (Addr × Obj)} {σ : St} {H : Hp} {s : Shared}
theorem sorted_itemsH {E : Value → Shared → Prop} {Q : Value → Shared → Prop} (I : Inv X pins σ H s) {l : Addr} {xs : List V} {vs : List Value} (rv : Vals xs vs) (coll : ∀ {A : Around} {E : Value → Shared → Prop} {Q : List Value → Shared → Prop}, A.handled = none → (∀ (h' : Heap) (tk : Nat), (∀ b o, s.heap.get? b = some o → h'.get? b = some o) → Q vs { s with heap := h', toks := tk }) → wpAny (model X.prog X.w) A (collect (.ref l)) Q E s) (hh : X.A.handled = none) (h64 : xs.length < 64) (key : Nat → Int) (κ : SortKind)
    (kind : 2 ≤ xs.length → ∀ (vs : List Value) (s' : Shared) (pins' : List (Addr × Obj)) (C : SortKind → Shared → Prop), Vals xs vs → Inv X pins' σ H s' → C κ s' → wpAny (model X.prog X.w) X.A.in1.in1 (keyKind' vs.toArray) C E s')
    (less : ∀ (vs : List Value) (s' : Shared) (pins' : List (Addr × Obj)) (i j : Nat) (C : Bool → Shared → Prop), i < xs.length → j < xs.length → Vals xs vs → Inv X pins' σ H s' → C (decide (key i < key j)) s' →
      wpAny (model X.prog X.w) X.A.in1.in1 (keyLt' κ (vs.getD i Value.none) (vs.getD j Value.none)) C (fun _ _ => False) s')
    (q : ∀ (D : Addr) (p : Array Nat) (s' : Shared), H D = none → Srt.Ord xs.length p → Srt.Up key p xs.length → Inv X pins σ (upd H D (.lst (p.toList.map fun i => xs.getD i .non))) s' → Q (.ref D) s') :
    wpAny (model X.prog X.w) X.A (call (.builtin "sorted") [.ref l]) Q E s := by
  have lv := rv.length
  have hsm : vs.length ≤ sizeLine := Nat.le_trans (show vs.length ≤ 64 by omega) (by decide)
  refine Calls.call_function_entry kind_sorted plain_sorted entry_sorted (args_sorted1 _) ?_
  unfold Builtin.«sorted»
  refine wpAny_bind (m := checkCount "sorted" 1 1 _) (wpAny_pure ?_)
  refine wpAny_bind (coll hh fun h0 tk0 keep0 => ?_)
  have I0 : Inv X pins σ H { s with heap := h0, toks := tk0 } := I.kept (h' := h0) (t' := tk0) keep0
  generalize ({ s with heap := h0, toks := tk0 } : Shared) = s at I0 ⊢
  refine wpAny_bind (wpAny_newList ?_ hsm)
  have keep1 : ∀ b o, s.heap.get? b = some o → (s.heap.push (seqObj "list" vs.toArray 0)).get? b = some o := fun b o e => Heap.get?_push_of_some _ e
  have hD1 : (s.heap.push (seqObj "list" vs.toArray 0)).get? s.heap.objs.size = some (seqObj "list" vs.toArray 0) := Heap.get?_push_size _ rfl
  have yD : Young X pins s.heap.objs.size := I0.young (Nat.le_refl _)
  have nD0 : H s.heap.objs.size = none := I0.hok.fresh (Nat.le_refl _)
  have I1 : Inv X pins σ H { s with heap := s.heap.push (seqObj "list" vs.toArray 0) } := I0.kept (t' := s.toks) keep1
  show wpAny _ _ _ _ _ { s with heap := s.heap.push (seqObj "list" vs.toArray 0) }
  generalize hDD : s.heap.objs.size = D at hD1 yD nD0 ⊢
  generalize s.heap.push (seqObj "list" vs.toArray 0) = h1' at hD1 I1 ⊢
  clear keep1
  refine wpAny_bind (wpAny_holding (wpAny_call_entry slot_list_sort ⟨_, hD1, rfl⟩ entry_list_sort ?body (args_list_sort _)))
  case body =>
    rw [list_sort_plain]
    refine wpAny_bind (listItems_at hD1 rfl ?_)
    refine wpAny_bind (listUpdate_at hD1 rfl ?_ (by rw [List.size_toArray]; omega) (Nat.zero_le _))
    have sb := Heap.SameBut.update h1' D (Obj.mapSeq fun _ => (#[] : Array Value))
    obtain ⟨e1, hD2⟩ : ∃ e1, (h1'.update D (Obj.mapSeq fun _ => (#[] : Array Value))).get? D = some (seqObj "list" #[] e1) := ⟨_, get?_update_seq hD1 fun _ => #[]⟩
    have I2 := I1.record (h' := h1'.update D (Obj.mapSeq fun _ => (#[] : Array Value))) yD nD0 sb
    generalize h1'.update D (Obj.mapSeq fun _ => (#[] : Array Value)) = h2' at hD2 I2 ⊢
    refine wpAny_bind (seqEpoch_at hD2 rfl ?_)
    refine wpAny_bind (wpAny_newTuple ?_ hsm)
    refine wpAny_bind (wpAny_newList ?_ (Nat.zero_le _))
    refine wpAny_holding ?_
    have I3 : Inv X pins σ H { s with heap := (h2'.push { cls := .type "tuple", data := .seq vs.toArray }).push { cls := .type "list", data := .seq ([] : List Value).toArray } } :=
      I2.kept (t' := s.toks) fun b o e => Heap.get?_push_of_some _ (Heap.get?_push_of_some _ e)
    have hD3 : ((h2'.push { cls := .type "tuple", data := .seq vs.toArray }).push { cls := .type "list", data := .seq ([] : List Value).toArray }).get? D = some (seqObj "list" #[] e1) := Heap.get?_push_of_some _ (Heap.get?_push_of_some _ hD2)
    dsimp only
    show wpAny _ _ _ _ _ { s with heap := (h2'.push { cls := .type "tuple", data := .seq vs.toArray }).push { cls := .type "list", data := .seq ([] : List Value).toArray } }
    generalize (h2'.push { cls := .type "tuple", data := .seq vs.toArray }).push { cls := .type "list", data := .seq ([] : List Value).toArray } = h3' at I3 hD3 ⊢
    have tail : ∀ (st : SortSt) (p : Array Nat), arrOf st = p.map (kas_item (vs.toArray.zip vs.toArray)) → failedOf st = none → Srt.Ord xs.length p → Srt.Up key p xs.length →
        wpAny (model X.prog X.w) X.A.in1.in1 (do
          let sorted := (arrOf st).map (·.2)
          let touched := (← seqEpoch D) != e1
          Builtin.List.listUpdate (.ref D) fun _ => sorted
          if let some e := failedOf st then rule "list.sort.comparison-raised"; throw e
          if touched then rule "list.sort.modified"; raiseError "ValueError" "list modified during sort"
          ret .none) (fun fin s'' => ∃ v, fin = .done (.ret v) ∧ wpAny (model X.prog X.w) X.A.in1 (ret (.ref D)) (fun fin s3 => ∃ v, fin = .done (.ret v) ∧ Q v s3) E s'') E { s with heap := h3' } := by
      intro st p ha hf po pu
      have out := kat_snds (ks := vs) (vs := vs) rfl ha
      dsimp only
      rw [out, hf]
      have plen : (p.toList.map fun i => vs.getD i Value.none).length = vs.length := by rw [List.length_map, Array.length_toList, po.sz, lv]
      refine wpAny_bind (seqEpoch_at hD3 rfl ?_)
      refine wpAny_bind (listUpdate_at hD3 rfl ?_ (Nat.zero_le _) (by rw [List.size_toArray, plen]; omega))
      have sb2 := Heap.SameBut.update h3' D (Obj.mapSeq fun _ => (p.toList.map fun i => vs.getD i Value.none).toArray)
      have J2 := I3.record yD nD0 sb2
      obtain ⟨c3, hD5⟩ : ∃ c3, (h3'.update D (Obj.mapSeq fun _ => (p.toList.map fun i => vs.getD i Value.none).toArray)).get? D = some (seqObj "list" (p.toList.map fun i => vs.getD i Value.none).toArray c3) := ⟨_, get?_update_seq hD3 _⟩
      generalize h3'.update D (Obj.mapSeq fun _ => (p.toList.map fun i => vs.getD i Value.none).toArray) = h6 at J2 hD5 ⊢
      simp only [bne_self_eq_false, Bool.false_eq_true, if_false]
      have rel : Vals (p.toList.map fun i => xs.getD i .non) (p.toList.map fun i => vs.getD i Value.none) := by
        have : ∀ (ls : List Nat), (∀ i ∈ ls, i < xs.length) → Vals (ls.map fun i => xs.getD i .non) (ls.map fun i => vs.getD i Value.none) := by
          intro ls
          induction ls with
          | nil => intro _; exact .nil
          | cons a r ih =>
            intro h
            refine .cons ?_ (ih fun i hi => h i (List.mem_cons_of_mem _ hi))
            have ha := h a List.mem_cons_self
            have := val_at rv (j := a) (by omega)
            show RelV (xs.getD a .non) (vs.getD a Value.none)
            rw [getD_at (xs := vs) (by omega : a < vs.length)]
            exact this
        refine this _ fun i hi => ?_
        have m : i ∈ p := by simpa using hi
        have m2 : i ∈ (List.toArray (List.range xs.length)) := (Array.Perm.mem_iff po.pm).mp m
        simpa using m2
      have J3 := J2.track (p := D) (o := .lst (p.toList.map fun i => xs.getD i .non)) nD0 (Heap.get?_none_of_le (by rw [← hDD]; have := I0.sz; omega)) yD.lo yD.ce yD.pi
        ⟨by rw [List.length_map, Array.length_toList, po.sz]; omega, _, c3, rel, hD5⟩
      exact wpAny_pure ⟨_, rfl, wpAny_pure ⟨_, rfl, q D p _ nD0 po pu J3⟩⟩
    by_cases h2 : vs.toArray.size < 2
    · rw [if_pos h2, if_pos h2]
      rw [List.size_toArray] at h2
      refine wpAny_bind (wpAny_pure ?_)
      rw [StateT.run_pure]
      refine wpAny_bind (wpAny_pure ?_)
      dsimp only
      refine tail _ (List.toArray (List.range xs.length)) ?_ rfl ⟨by simp, Array.Perm.refl _⟩ fun i i1 i2 => by omega
      show vs.toArray.zip vs.toArray = _
      have e := kas_range (vs.toArray.zip vs.toArray)
      rw [show (vs.toArray.zip vs.toArray).size = xs.length by simp; omega] at e
      exact e.symm
    · rw [if_neg h2, if_neg h2]
      rw [List.size_toArray] at h2
      refine wpAny_bind (kind (by omega) vs _ pins _ rv I3 ?_)
      have run := wp_of_run (key := key) (n := vs.length) (cmp := kas_ask X.prog X.w X.A.in1.in1 κ vs) (s := { s with heap := h3' }) (Q := fun r => Srt.Ord vs.length r ∧ Srt.Up key r vs.length) (fun i j C hi hj hC => ?_) _ (Srt.run_sort (n := vs.length) (by omega))
      · refine wpAny_bind (wpAny_mono (kat_run (Q := fun st' s'' => ∃ p, arrOf st' = p.map (kas_item (vs.toArray.zip vs.toArray)) ∧ failedOf st' = none ∧ (Srt.Ord vs.length p ∧ Srt.Up key p vs.length) ∧ s'' = { s with heap := h3' }) rfl (by omega) (by omega)
          (fun p st' s'' a1 a2 a3 a4 => ⟨p, a2, a3, a4.1, a4.2⟩) run) ?_ fun _ _ x => x)
        rintro ⟨⟨⟩, st'⟩ s'' ⟨p, a2, a3, ⟨a4, a5⟩, rfl⟩
        dsimp only
        rw [← lv] at a4 a5
        exact tail st' p a2 a3 a4 a5
      · exact less vs _ pins i j C (by omega) (by omega) rv I3 hC
end
theorem dt_ivs {H : Hp} : ∀ {kvs : List (List Key × V)} {ts : List (List Key × Addr × Value)} {zs : List (List Int)}, Paired (fun (p : List Key × V) (q : List Key × Addr × Value) => p.1 = q.1 ∧ H q.2.1 = some (.tup (p.1.map kV)) ∧ RelV p.2 q.2.2) kvs ts → kvs.map (·.1) = zs.map (fun z => z.map Sum.inl) → IvsAt H (ts.map fun q => V.ref q.2.1) zs
  | _, _, [], .nil, _ => .nil
  | _, _, _ :: _, .nil, h => by simp at h
  | _, _, [], .cons _ _, h => by simp at h
  | _, _, z :: zs, .cons ⟨e, a, _⟩ r, h => by
    rw [List.map_cons, List.map_cons] at h
    injection h with h1 h2
    refine .cons ⟨_, rfl, ?_⟩ (dt_ivs r h2)
    rw [a, h1, List.map_map]
    rfl
theorem refs_vals {α : Type} {g : α → Addr} : ∀ (ts : List α), Vals (ts.map fun q => V.ref (g q)) (ts.map fun q => Value.ref (g q))
  | [] => .nil
  | _ :: ts => .cons rfl (refs_vals ts)
theorem keys_of {es : Array DictEntry} {acc : Array Value} (h : ItemsOf (fun i v => ∃ e, es[i]? = some e ∧ v = e.key) acc es.size) : acc.toList = es.toList.map (·.key) := by
  refine List.ext_getElem? fun i => ?_
  rw [List.getElem?_map, Array.getElem?_toList, Array.getElem?_toList]
  cases e : acc[i]? with
  | none =>
    have : es[i]? = none := Array.getElem?_eq_none (by have := Array.getElem?_eq_none_iff.mp e; have := h.1; omega)
    rw [this]
    rfl
  | some v =>
    obtain ⟨en, h1, h2⟩ := h.2 i v e
    rw [h1, h2]
    rfl
def tSortDT (tl : TE) : TE := fun σ H Q => tl σ H fun x H1 => ∃ (l : Addr) (kvs : List (List Key × V)) (zs : List (List Int)) (m : Nat), x = .ref l ∧ H1 l = some (.dT kvs) ∧ kvs.map (·.1) = zs.map (fun z => z.map Sum.inl) ∧ zs.length < 64 ∧ (∀ z ∈ zs, z.length = m + 1) ∧
  ∀ (D : Addr) (us : List V) (zs' : List (List Int)), H1 D = none → zs'.Perm zs → zs'.Pairwise (fun a b => lx b a = false) → IvsAt H1 us zs' → Q (.ref D) (upd H1 D (.lst us))
theorem pe_sortDT {X : Cx} {l : Expr} {tl : TE} {p pos : Pos} (hg : Gl X "sorted") (hm : X.mg "sorted" = none) (hc : X.calm = true) (hl : PE X l tl) (hs : starEach [l] X.env = [(false, eval l X.env)] := by rfl) : PE X (.Call (.Name "sorted" p) [l] [] pos) (tSortDT tl) := by
  intro pins s σ H Q I h
  refine wpAny_Call_Name_kw (ld_blt I hg hm boot_sorted ?_ (by decide) (by decide))
  refine PyProof.Rows.callWith_builtin1 (thn ((pa_cons hl pa_nil hs) pos pins s σ H (fun vs H1 => match vs with
    | [x] => ∃ (l : Addr) (kvs : List (List Key × V)) (zs : List (List Int)) (m : Nat), x = .ref l ∧ H1 l = some (.dT kvs) ∧ kvs.map (·.1) = zs.map (fun z => z.map Sum.inl) ∧ zs.length < 64 ∧ (∀ z ∈ zs, z.length = m + 1) ∧
      ∀ (D : Addr) (us : List V) (zs' : List (List Int)), H1 D = none → zs'.Perm zs → zs'.Pairwise (fun a b => lx b a = false) → IvsAt H1 us zs' → Q (.ref D) (upd H1 D (.lst us))
    | _ => False) I h) fun us s1 ⟨vs, H1, I1, r1, q1⟩ => ?_) (by rw [hs]; rfl) (by rfl)
  match vs, q1 with
  | [x], q1 =>
  obtain ⟨u, rfl, ru⟩ := vals1 r1
  obtain ⟨la, kvs, zs, m, rfl, hL, hks, hz64, hM, q⟩ := q1
  cases (show u = Value.ref la from ru)
  obtain ⟨_, hsys, ts, hP, ob, es, ep, hob, hex, hdat, hes, _⟩ := dt_of I1.hok hL
  have lts : kvs.length = ts.length := Paired.length hP
  have hI : IvsAt H1 (ts.map fun q => V.ref q.2.1) zs := dt_ivs hP hks
  have rv0 : Vals (ts.map fun q => V.ref q.2.1) (es.toList.map (·.key)) := by
    rw [hes, List.map_map]
    exact refs_vals ts
  generalize ts.map (fun q => V.ref q.2.1) = xs at hI rv0
  have hzs := hI.len
  have h64 : xs.length < 64 := by omega
  obtain ⟨B, hB⟩ := bound_all zs
  have zAt : ∀ i, i < xs.length → zs.getD i [] ∈ zs := fun i hi => by rw [getD_at (by omega : i < zs.length)]; exact List.getElem_mem _
  have tupAt : ∀ {pins' : List (Addr × Obj)} {s' : Shared} {vs : List Value}, Vals xs vs → Inv X pins' σ H1 s' → ∀ i, i < xs.length → ∃ (p : Addr) (o : Obj) (n : Nat) (its : List Value), vs.getD i Value.none = .ref p ∧ s'.heap.get? p = some o ∧ o.cls = .type "tuple" ∧ o.data = .seq its.toArray n ∧ Vals ((zs.getD i []).map V.int) its := by
    intro pins' s' vs rv I' i hi
    have e1 : xs[i]? = some xs[i] := List.getElem?_eq_getElem hi
    obtain ⟨z, hz, p, hp, hH⟩ := paired_get' hI e1
    obtain ⟨_, its, r, ⟨o, e, c, n, d⟩⟩ := I'.hok p _ hH
    have lv := rv.length
    have ev := val_at rv (j := i) (by omega)
    rw [getD_at hi, hp] at ev
    refine ⟨p, o, n, its, ?_, e, c, d, ?_⟩
    · rw [getD_at (by omega : i < vs.length)]; exact ev
    · rw [List.getD_eq_getElem?_getD, hz]; exact r
  have lv0 := rv0.length
  have e64 : es.size ≤ 64 := by
    have l2 : es.size = (es.toList.map (·.key)).length := by simp
    omega
  refine sorted_itemsH I1 rv0 (fun hh q => kdu_collect (ent_src hsys) hh ⟨ob, hob, hex, hdat⟩ (Nat.le_trans e64 (by decide)) fun h' tk acc hk hacc => by
    rw [keys_of hacc]
    exact q h' tk hk) (I1.ok.hd hc) h64 (fun i => lexK (2 * B) B (zs.getD i [])) (tuples' true) (fun h2 vs s' pins' C rv I' hC => ?_) (fun vs s' pins' i j C hi hj rv I' hC => ?_) fun D p s' hD po pu I' => ⟨.ref D, _, I', rfl, ?_⟩
  · have lv := rv.length
    have KT : ∀ (k : Nat), k ≤ vs.length → ∃ fs : List Value, fs.length = vs.length - k ∧ KatTups s'.heap (vs.drop k) fs ∧ ∀ v ∈ fs, ∃ i t, v = Value.int i t := by
      intro k hk
      generalize hd : vs.length - k = d
      induction d generalizing k with
      | zero =>
        refine ⟨[], rfl, ?_, fun v hv => nomatch hv⟩
        rw [List.drop_of_length_le (by omega)]
        exact KatTups.nil
      | succ d ih =>
        obtain ⟨fs, f1, f2, f3⟩ := ih (k + 1) (by omega) (by omega)
        obtain ⟨p, o, n, its, g1, g2, g3, g4, g5⟩ := tupAt rv I' k (by omega)
        rw [getD_at (by omega : k < vs.length)] at g1
        have lz := hM _ (zAt k (by omega))
        generalize zs.getD k [] = z at g5 lz
        match z, lz, its, g5 with
        | c :: r, _, _, .cons (l₂ := us) r1 rr =>
          obtain ⟨t, rfl⟩ := r1
          refine ⟨.int c t :: fs, by rw [List.length_cons, f1], ?_, fun v hv => ?_⟩
          · rw [← List.getElem_cons_drop (show k < vs.length by omega), g1]
            exact KatTups.cons g2 g3 g4 (by simp) f2
          · rcases List.mem_cons.mp hv with rfl | hv
            · exact ⟨_, _, rfl⟩
            · exact f3 v hv
    obtain ⟨fs, f1, f2, f3⟩ := KT 0 (Nat.zero_le _)
    rw [List.drop_zero] at f2
    refine kat_kind f2 (by omega) (T := .type "int") (fun v hv => ?_) (by decide) ?_
    · obtain ⟨i, t, rfl⟩ := f3 v hv
      exact Looks.of_pure rfl
    have hkind : (Value.type "int" != Value.type "tuple") = true := by decide
    rw [hkind]
    exact hC
  · obtain ⟨p1, o1, n1, its1, a1, a2, _, a4, a5⟩ := tupAt rv I' i hi
    obtain ⟨p2, o2, n2, its2, b1, b2, _, b4, b5⟩ := tupAt rv I' j hj
    have l1 := hM _ (zAt i hi)
    have l2 := hM _ (zAt j hj)
    have hC : C (decide (lexK (2 * B) B (zs.getD i []) < lexK (2 * B) B (zs.getD j []))) s' := hC
    rw [lexK_lt (by omega) (by omega) (hB _ (zAt i hi)) (hB _ (zAt j hj))] at hC
    have la := a5.length
    have lb := b5.length
    rw [List.length_map] at la lb
    rw [a1, b1]
    refine kat_lt a2 a4 b2 b4 ?_
    have ef : decide (its1.toArray.size < its2.toArray.size) = false := decide_eq_false (by rw [List.size_toArray, List.size_toArray]; omega)
    rw [ef]
    exact kat_ints _ _ _ _ 0 a5 b5 (by omega) hC
  · rw [hzs] at po pu
    refine q D _ (p.toList.map fun i => zs.getD i []) hD (ord_perm po) (ord_sorted po hB hM pu) (paired_pick hI _ fun i hi => ?_)
    have m : i ∈ p := by simpa using hi
    have m2 : i ∈ (List.toArray (List.range zs.length)) := (Array.Perm.mem_iff po.pm).mp m
    simpa using m2
end L2
set_option Elab.async false
set_option linter.all false
set_option maxRecDepth 100000
set_option maxHeartbeats 4000000
namespace KO
open PySem L2 Til
structure RowsAt (H : Hp) (lr : Addr) (qs : List Addr) (n : Nat) (val : Nat → Nat → Nat) : Prop where
  lst : H lr = some (.lst (qs.map V.ref))
  len : qs.length = n
  nd : qs.Nodup
  out : lr ∉ qs
  row : ∀ (y : Nat) (q : Addr), qs[y]? = some q → H q = some (.lst ((List.range n).map fun x : Nat => V.int (val x y : Nat)))
theorem RowsAt.same {H H' : Hp} (S : Same H H') {lr : Addr} {qs : List Addr} {n : Nat} {val : Nat → Nat → Nat} (R : RowsAt H lr qs n val) : RowsAt H' lr qs n val :=
  ⟨S _ _ R.lst, R.len, R.nd, R.out, fun y q e => S _ _ (R.row y q e)⟩
theorem set_range {n x0 : Nat} {f : Nat → V} {v : V} (h : x0 < n) : ((List.range n).map f).set x0 v = (List.range n).map fun x => if x = x0 then v else f x := by
  refine List.ext_getElem (by simp) fun i h1 h2 => ?_
  rw [List.getElem_set, List.getElem_map, List.getElem_map, List.getElem_range]
  by_cases e : x0 = i
  · rw [if_pos e, if_pos e.symm]
  · rw [if_neg e, if_neg (Ne.symm e)]
theorem RowsAt.write {H : Hp} {lr : Addr} {qs : List Addr} {n : Nat} {val : Nat → Nat → Nat} (R : RowsAt H lr qs n val) {x0 y0 k : Nat} {q0 : Addr} (e0 : qs[y0]? = some q0) (hx : x0 < n) :
    RowsAt (upd H q0 (.lst (((List.range n).map fun x : Nat => V.int (val x y0 : Nat)).set x0 (.int (k : Nat))))) lr qs n (fun x y => if x = x0 ∧ y = y0 then k else val x y) := by
  have hq : q0 ∈ qs := List.mem_of_getElem? e0
  refine ⟨?_, R.len, R.nd, R.out, fun y q e => ?_⟩
  · rw [upd_ne (fun z => R.out (by rw [z]; exact hq))]
    exact R.lst
  · by_cases hy : y = y0
    · subst hy
      rw [e0] at e
      cases e
      rw [upd_same, set_range hx]
      congr 2
      refine List.map_congr_left fun x _ => ?_
      by_cases z : x = x0
      · rw [if_pos z, if_pos ⟨z, rfl⟩]
      · rw [if_neg z, if_neg (fun w => z w.1)]
    · have ne : q ≠ q0 := fun z => by
        subst z
        obtain ⟨h1, g1⟩ := List.getElem?_eq_some_iff.mp e
        obtain ⟨h2, g2⟩ := List.getElem?_eq_some_iff.mp e0
        have := List.pairwise_iff_getElem.mp R.nd
        rcases Nat.lt_or_gt_of_ne hy with z | z
        · exact this y y0 h1 h2 z (by rw [g1, g2])
        · exact this y0 y h2 h1 z (by rw [g1, g2])
      rw [upd_ne ne, R.row y q e]
      congr 2
      refine List.map_congr_left fun x _ => ?_
      rw [if_neg (fun w => hy w.2)]
def spOwn : Sp := fun vs H Q _ => ∃ (l : Addr) (us : List V) (bs : List Bx) (n : Nat), vs = [.ref l, .int (n : Nat)] ∧ H l = some (.lst us) ∧ BoxesAt H us bs ∧ Tiles bs n n ∧ bs.length ≤ 24 ∧ n ≤ 50 ∧
  ∀ (lr : Addr) (qs : List Addr) (val : Nat → Nat → Nat) (H' : Hp), Same H H' → RowsAt H' lr qs n val → (∀ x y : Nat, x < n → y < n → val x y = idx bs x y) → Q (.ref lr) H'
section
variable {P : Program} {w : World} {K : PySem.W.Frag} {mg : Str → Option Value} {base : Heap}
theorem rep_zero (n : Nat) : (List.replicate n [V.int 0]).flatten = (List.range n).map fun x : Nat => V.int ((0 : Nat) : Int) := by
  induction n with
  | zero => rfl
  | succ n ih =>
    rw [List.range_succ, List.map_append, ← ih, List.replicate_succ', List.flatten_append]
    rfl
theorem scOwn : FnScope ["boxes", "many", "rows", "y", "k", "left", "top", "right", "below", "x"] ["boxes", "many"] (defScope sOwn) := ⟨rfl, rfl, rfl, by decide +kernel, rfl, by decide +kernel, by decide +kernel⟩
theorem ok_own {f : Addr} {fd : FuncData} (F : Fun K "_law_owners" "_law_owners" sOwn f fd) (tr : mg "range" = none) (tl : mg "len" = none) : FnOk P w K mg base CX0 1 f fd ["boxes", "many"] spOwn := by
  refine F.ok scOwn (fun vs H Q E h => ?_) (fun cdv A outer s H vs Q E hr h => ?_)
  · obtain ⟨l, us, bs, n, rfl, _⟩ := h
    rfl
  · obtain ⟨l, us, bs, n, rfl, hl, hB, T, hlen, hn, q⟩ := h
    refine ⟨_, (pss_cons (ps_comp (i := 2) (Nc := ["y", "many"]) (ix := [none, some 1]) scOwn.nd rfl (Or.inl rfl) rfl rfl (by exact (pi_range1 rfl tr (pa_cons (pv 1) pa_nil))) (fun _ _ _ _ _ => (pg_name (i := 0) (by show (["y", "many"] : List Str).Nodup; decide +kernel) rfl (Or.inl rfl))) (fun _ _ _ _ _ => pts_nil) (fun _ _ _ _ _ => (pe_op op_rep (pe_lst (pa_cons pe_int pa_nil)) (pv 1))))
      (pss_cons (ps_for PassesOwn.never rfl (pi_range1 rfl tr (pa_cons (pe_callB call_len_seq (by rfl) tl PySem.boot_len (pa_cons (pv 0) pa_nil)) pa_nil)) (pg_name (i := 4) scOwn.nd rfl (Or.inl rfl))
      (pss_cons (ps_asg (pe_ix ix_list (pv 0) (pv 4) (fun _ _ => rfl)) (pg_tup rfl (pgs_cons (pg_name (i := 5) scOwn.nd rfl (Or.inl rfl)) (pgs_cons (pg_name (i := 6) scOwn.nd rfl (Or.inl rfl)) (pgs_cons (pg_name (i := 7) scOwn.nd rfl (Or.inl rfl)) (pgs_cons (pg_name (i := 8) scOwn.nd rfl (Or.inl rfl)) pgs_nil))))))
        (pss_one (ps_for PassesOwn.never rfl (pi_range2 rfl tr (pa_cons (pv 6) (pa_cons (pv 8) pa_nil))) (pg_name (i := 3) scOwn.nd rfl (Or.inl rfl))
        (pss_one (ps_for PassesOwn.never rfl (pi_range2 rfl tr (pa_cons (pv 5) (pa_cons (pv 7) pa_nil))) (pg_name (i := 9) scOwn.nd rfl (Or.inl rfl))
          (pss_one (ps_asg (pv 4) (pg_sub (pe_ix ix_list (pv 2) (pv 3) (fun _ _ => rfl)) (pv 9) set_list)))))))))
      (pss_one (ps_ret (pv 2))))), ?_⟩
    have lu := hB.len
    refine ⟨_, rfl, _, rfl, by omega, by omega, cmp_range (lo := 0) (n := n) (fun i ys σ H' => (∃ o0, σ = [o0, some (.int (n : Nat))]) ∧ Same H H' ∧ ∃ qs : List Addr, ys = qs.map V.ref ∧ qs.length = i ∧ qs.Nodup ∧ (∀ q ∈ qs, H q = none) ∧ ∀ q ∈ qs, H' q = some (.lst ((List.range n).map fun x : Nat => V.int ((0 : Nat) : Int))))
      ⟨⟨none, rfl⟩, Same.refl _, [], rfl, rfl, .nil, fun _ h => (by cases h), fun _ h => (by cases h)⟩ (fun i ys σ H' hi ⟨_, _, qs, e, l1, _⟩ => by rw [e, List.length_map, l1]; exact Nat.le_trans (show i ≤ 1000 by omega) (by decide)) ?_ ?_⟩
    case refine_2 =>
      rintro i ys σ H' hi ⟨⟨o0, rfl⟩, S, qs, rfl, l1, nd, fr, rw'⟩
      dsimp only [gName, tYes]
      refine iteT ?_
      refine ⟨by show 1 ≤ sizeLine; decide, fun p1 n1 => ⟨_, rfl, p1, _, _, rfl, rfl, upd_same, by omega, by omega, (by rw [Int.toNat_natCast]; exact Nat.le_trans (show 1 * n ≤ 1000 by omega) (by decide)), fun p np => ?_⟩⟩
      have S1 := same_new (o := .lst [.int 0]) n1
      have S2 := same_new (o := .lst (List.replicate (n : Int).toNat [.int 0]).flatten) np
      refine ⟨⟨_, rfl⟩, S.trans (S1.trans S2), qs ++ [p], by rw [List.map_append]; rfl, by rw [List.length_append, l1]; rfl, ?_, fun q hq => ?_, fun q hq => ?_⟩
      · rw [List.nodup_append]
        refine ⟨nd, by simp, fun a ha b hb => ?_⟩
        rw [List.mem_singleton.mp hb]
        intro z
        subst z
        have := (S1 _ _ (rw' _ ha))
        rw [np] at this
        cases this
      · rcases List.mem_append.mp hq with hq | hq
        · exact fr q hq
        · rw [List.mem_singleton.mp hq]
          exact (S.trans S1).free np
      · rcases List.mem_append.mp hq with hq | hq
        · exact (S1.trans S2) _ _ (rw' q hq)
        · rw [List.mem_singleton.mp hq, upd_same, Int.toNat_natCast, rep_zero]
    rintro ys σ H1 ⟨_, S1, qs, rfl, l1, nd, fr, rw'⟩ lr nlr
    have S2 := same_new (o := .lst (qs.map V.ref)) nlr
    have R0 : RowsAt (upd H1 lr (.lst (qs.map V.ref))) lr qs n (fun _ _ => 0) := ⟨upd_same, l1, nd, (fun z => by have := rw' _ z; rw [nlr] at this; cases this), fun y q e => S2 _ _ (rw' q (List.mem_of_getElem? e))⟩
    have S02 := S1.trans S2
    generalize upd H1 lr (.lst (qs.map V.ref)) = H2 at R0 S02
    clear S1 S2 nlr rw'
    refine ⟨_, rfl, l, us, rfl, .inl (SqL.of (S02 _ _ hl)), _, rfl, by omega, by omega, ?_⟩
    refine for_range (lo := 0) (n := us.length) (fun k σ H' => ∃ (o3 o4 o5 o6 o7 o8 o9 : Option V) (val : Nat → Nat → Nat), σ = [some (.ref l), some (.int (n : Nat)), some (.ref lr), o3, o4, o5, o6, o7, o8, o9] ∧ Same H H' ∧ RowsAt H' lr qs n val ∧ ∀ x y : Nat, x < n → y < n → val x y = if idx bs x y < k then idx bs x y else 0)
      ⟨none, none, none, none, none, none, none, _, rfl, S02, R0, fun x y _ _ => (if_neg (Nat.not_lt_zero _)).symm⟩ ?_ ?_
    · rintro k σ Hk hk ⟨o3, o4, o5, o6, o7, o8, o9, val, rfl, S, R, hv⟩
      rw [show (0 : Int) + (k : Int) = k from Int.zero_add _]
      refine run_gname ?_
      have eb : bs[k]? = some bs[k] := List.getElem?_eq_getElem (by omega)
      generalize bs[k] = b at eb
      obtain ⟨v, hvv, pb, rfl, hpb⟩ := hB.get eb
      obtain ⟨b1, b2, b3, b4, b5, b6⟩ := T.wf b (List.mem_of_getElem? eb)
      have ik : ∀ {x y : Nat}, x < n → y < n → (idx bs x y = k ↔ inB b x y = true) := fun {x y} hx hy => by
        constructor
        · intro e
          obtain ⟨k', b', e', in', _⟩ := tiles_find T (x := (x : Int)) (y := (y : Int)) (by omega) (by omega) (by omega) (by omega)
          have := idx_of T (by omega) (by omega) (by omega) (by omega) e' in'
          have : k' = k := by omega
          subst this
          rw [eb] at e'
          cases e'
          exact in'
        · intro e
          exact idx_of T (by omega) (by omega) (by omega) (by omega) eb e
      refine ⟨_, rfl, _, rfl, _, _, _, _, rfl, rfl, SqL.of (S _ _ hl), atI_nat hvv, pb, _, rfl, SqT.of (S _ _ hpb), rfl, _, _, rfl, _, _, rfl, _, _, rfl, _, _, rfl, rfl, ?_⟩
      refine ⟨_, rfl, _, rfl, _, _, rfl, ⟨by omega, by omega, by omega, by omega⟩, ?_⟩
      refine for_range (lo := b.t) (n := (b.b - b.t).toNat) (fun m σ H' => ∃ (o3 o9 : Option V) (val : Nat → Nat → Nat), σ = [some (.ref l), some (.int (n : Nat)), some (.ref lr), o3, some (.int (k : Int)), some (.int b.l), some (.int b.t), some (.int b.r), some (.int b.b), o9] ∧ Same H H' ∧ RowsAt H' lr qs n val ∧
        ∀ x y : Nat, x < n → y < n → val x y = if idx bs x y < k then idx bs x y else if idx bs x y = k ∧ (y : Int) < b.t + m then k else 0)
        ⟨_, _, val, rfl, S, R, fun x y hx hy => ?_⟩ ?_ ?_
      · rw [hv x y hx hy]
        by_cases q1 : idx bs x y < k
        · rw [if_pos q1, if_pos q1]
        · rw [if_neg q1, if_neg q1]
          by_cases q2 : idx bs x y = k
          · have := inB_iff.mp ((ik hx hy).mp q2)
            rw [if_neg (by omega)]
          · rw [if_neg (fun z => q2 z.1)]
      · rintro m σ Hm hm ⟨o3, o9, val, rfl, S, R, hv⟩
        refine run_gname ?_
        obtain ⟨y0, hy0⟩ := Int.eq_ofNat_of_zero_le (show 0 ≤ b.t + (m : Int) by omega)
        have y0n : y0 < n := by omega
        refine ⟨_, rfl, _, rfl, _, _, rfl, ⟨by omega, by omega, by omega, by omega⟩, ?_⟩
        refine for_range (lo := b.l) (n := (b.r - b.l).toNat) (fun j σ H' => ∃ (o9 : Option V) (val : Nat → Nat → Nat), σ = [some (.ref l), some (.int (n : Nat)), some (.ref lr), some (.int (b.t + (m : Int))), some (.int (k : Int)), some (.int b.l), some (.int b.t), some (.int b.r), some (.int b.b), o9] ∧ Same H H' ∧ RowsAt H' lr qs n val ∧
          ∀ x y : Nat, x < n → y < n → val x y = if idx bs x y < k then idx bs x y else if idx bs x y = k ∧ ((y : Int) < b.t + m ∨ (y = y0 ∧ (x : Int) < b.l + j)) then k else 0)
          ⟨_, val, rfl, S, R, fun x y hx hy => ?_⟩ ?_ ?_
        · rw [hv x y hx hy]
          by_cases q1 : idx bs x y < k
          · rw [if_pos q1, if_pos q1]
          · rw [if_neg q1, if_neg q1]
            by_cases q2 : idx bs x y = k
            · have := inB_iff.mp ((ik hx hy).mp q2)
              by_cases q3 : (y : Int) < b.t + m
              · rw [if_pos ⟨q2, q3⟩, if_pos ⟨q2, .inl q3⟩]
              · rw [if_neg (fun z => q3 z.2), if_neg (fun z => by omega)]
            · rw [if_neg (fun z => q2 z.1), if_neg (fun z => q2 z.1)]
        · rintro j σ Hj hj ⟨o9, val, rfl, S, R, hv⟩
          refine run_gname ?_
          obtain ⟨x0, hx0⟩ := Int.eq_ofNat_of_zero_le (show 0 ≤ b.l + (j : Int) by omega)
          have x0n : x0 < n := by omega
          have i0 : idx bs x0 y0 = k := (ik x0n y0n).mpr (inB_iff.mpr ⟨by omega, by omega, by omega, by omega⟩)
          have e0 : qs[y0]? = some (qs[y0]'(by rw [l1]; exact y0n)) := List.getElem?_eq_getElem _
          generalize qs[y0]'(by rw [l1]; exact y0n) = q0 at e0
          have er : (qs.map V.ref)[y0]? = some (.ref q0) := by rw [List.getElem?_map, e0]; rfl
          refine ⟨_, rfl, _, rfl, _, rfl, _, _, _, _, rfl, rfl, SqL.of R.lst, (by rw [hy0]; exact atI_nat er), _, rfl, q0, _, _, x0, rfl, rfl, R.row y0 q0 e0, (by rw [hx0, List.length_map, List.length_range]; exact ixN_nat x0n), ?_⟩
          refine ⟨_, _, rfl, same_upd S (fr q0 (List.mem_of_getElem? e0)), R.write e0 x0n, fun x y hx hy => ?_⟩
          by_cases z : x = x0 ∧ y = y0
          · rw [if_pos z, z.1, z.2, i0, if_neg (Nat.lt_irrefl _), if_pos ⟨rfl, .inr ⟨rfl, by omega⟩⟩]
          · rw [if_neg z, hv x y hx hy]
            by_cases q1 : idx bs x y < k
            · rw [if_pos q1, if_pos q1]
            · rw [if_neg q1, if_neg q1]
              by_cases q3 : idx bs x y = k ∧ ((y : Int) < b.t + m ∨ (y = y0 ∧ (x : Int) < b.l + j))
              · rw [if_pos q3, if_pos ⟨q3.1, by omega⟩]
              · rw [if_neg q3, if_neg (fun q4 => q3 ⟨q4.1, by omega⟩)]
        · rintro σ Hj ⟨o9, val, rfl, S, R, hv⟩
          refine ⟨_, _, val, rfl, S, R, fun x y hx hy => ?_⟩
          rw [hv x y hx hy]
          by_cases q1 : idx bs x y < k
          · rw [if_pos q1, if_pos q1]
          · rw [if_neg q1, if_neg q1]
            by_cases q2 : idx bs x y = k
            · have := inB_iff.mp ((ik hx hy).mp q2)
              by_cases q3 : (y : Int) < b.t + (m + 1 : Nat)
              · rw [if_pos ⟨q2, by omega⟩, if_pos ⟨q2, q3⟩]
              · rw [if_neg (fun z => q3 (by omega)), if_neg (fun z => q3 z.2)]
            · rw [if_neg (fun z => q2 z.1), if_neg (fun z => q2 z.1)]
      · rintro σ Hm ⟨o3, o9, val, rfl, S, R, hv⟩
        refine ⟨_, _, _, _, _, _, _, val, rfl, S, R, fun x y hx hy => ?_⟩
        rw [hv x y hx hy]
        by_cases q1 : idx bs x y < k
        · rw [if_pos q1, if_pos (by omega)]
        · rw [if_neg q1]
          by_cases q2 : idx bs x y = k
          · have := inB_iff.mp ((ik hx hy).mp q2)
            rw [if_pos ⟨q2, by omega⟩, if_pos (by omega), q2]
          · rw [if_neg (fun z => q2 z.1), if_neg (by omega)]
    · rintro σ Hk ⟨o3, o4, o5, o6, o7, o8, o9, val, rfl, S, R, hv⟩
      refine ⟨_, rfl, q lr qs val Hk S R fun x y hx hy => ?_⟩
      rw [hv x y hx hy, if_pos]
      rw [lu]
      exact idx_lt T (by omega) (by omega) (by omega) (by omega)
end
end KO
set_option Elab.async false
set_option linter.all false
set_option maxRecDepth 100000
set_option maxHeartbeats 4000000
namespace KO
open PySem L2 Til PySem.W
theorem lx_anti : ∀ {a b : List Int}, a.length = b.length → lx a b = false → lx b a = false → a = b
  | [], [], _, _, _ => rfl
  | [], _ :: _, h, _, _ => by simp at h
  | _ :: _, [], h, _, _ => by simp at h
  | c :: r, d :: s, h, h1, h2 => by
    have h1 : (decide (c < d) || (decide (c = d) && lx r s)) = false := h1
    have h2 : (decide (d < c) || (decide (d = c) && lx s r)) = false := h2
    rw [Bool.or_eq_false_iff] at h1 h2
    have e : c = d := by
      have a := of_decide_eq_false h1.1
      have b := of_decide_eq_false h2.1
      omega
    subst e
    have a := h1.2
    have b := h2.2
    rw [decide_eq_true rfl, Bool.true_and] at a b
    rw [lx_anti (by simpa using h) a b]
theorem srt_uniq {α : Type} {R : α → α → Prop} : ∀ {as bs : List α}, (∀ a ∈ as, ∀ b ∈ as, R a b → R b a → a = b) → as.Perm bs → as.Pairwise R → bs.Pairwise R → as = bs
  | [], bs, _, p, _, _ => by rw [List.nil_perm.mp p]
  | a :: as, [], _, p, _, _ => by have := p.length_eq; simp at this
  | a :: as, b :: bs, h, p, h1, h2 => by
    have e : a = b := by
      by_cases e : a = b
      · exact e
      have m1 : a ∈ b :: bs := p.subset List.mem_cons_self
      have m2 : b ∈ a :: as := p.symm.subset List.mem_cons_self
      rcases List.mem_cons.mp m1 with z | m1
      · exact z
      rcases List.mem_cons.mp m2 with z | m2
      · exact z.symm
      exact h a List.mem_cons_self b (List.mem_cons_of_mem _ m2) ((List.pairwise_cons.mp h1).1 b m2) ((List.pairwise_cons.mp h2).1 a m1)
    subst e
    rw [srt_uniq (fun x hx y hy => h x (List.mem_cons_of_mem _ hx) y (List.mem_cons_of_mem _ hy)) (List.perm_cons a |>.mp p) (List.pairwise_cons.mp h1).2 (List.pairwise_cons.mp h2).2]
theorem eqT {K : PySem.W.Frag} {H : Hp} {n : Nat} {a c : Addr} {xs ys : List V} (h1 : SqT K H a xs) (h2 : SqT K H c ys) (hl : xs.length = ys.length) (h : ∀ j, j < xs.length → EqR K H n (xs.getD j .non) (ys.getD j .non) true) : EqR K H (n + 1) (.ref a) (.ref c) true := by
  have := EqR.tups (e := fun _ => true) h1 h2 (fun j a _ => h j a)
  have e : ((List.range (min xs.length ys.length)).all (fun _ => true) && xs.length == ys.length) = true := by rw [hl]; simp
  rw [e] at this
  exact this
theorem eqL {K : PySem.W.Frag} {H : Hp} {n : Nat} {a c : Addr} {xs ys : List V} (h1 : SqL K H a xs) (h2 : SqL K H c ys) (hl : xs.length = ys.length) (h : ∀ j, j < xs.length → EqR K H n (xs.getD j .non) (ys.getD j .non) true) : EqR K H (n + 1) (.ref a) (.ref c) true := by
  have := EqR.lsts (e := fun _ => true) h1 h2 hl h
  have e : ((List.range xs.length).all (fun _ => true)) = true := by simp
  rw [e] at this
  exact this
theorem eqI {K : PySem.W.Frag} {H : Hp} (n : Nat) (i : Int) : EqR K H n (.int i) (.int i) true := by
  have := EqR.flat (K := K) (H := H) (n := n) (x := .int i) (y := .int i) rfl rfl
  have e : eqV (.int i) (.int i) = true := by show (i == i) = true; simp
  rw [e] at this
  exact this
theorem eq_iv {K : PySem.W.Frag} {H : Hp} {v u : V} {z : List Int} (h1 : IvAt H v z) (h2 : IvAt H u z) : EqR K H 1 v u true := by
  obtain ⟨p, rfl, hp⟩ := h1
  obtain ⟨q, rfl, hq⟩ := h2
  refine eqT (SqT.of hp) (SqT.of hq) rfl fun j hj => ?_
  rw [List.length_map] at hj
  rw [List.getD_eq_getElem?_getD, List.getElem?_map, List.getElem?_eq_getElem hj]
  exact eqI 0 _
theorem eq_ivs {K : PySem.W.Frag} {H : Hp} {a c : Addr} {us vs : List V} {zs : List (List Int)} (ha : H a = some (.lst us)) (hc : H c = some (.lst vs)) (h1 : IvsAt H us zs) (h2 : IvsAt H vs zs) : EqR K H 2 (.ref a) (.ref c) true := by
  have l1 : us.length = zs.length := h1.len
  have l2 : vs.length = zs.length := h2.len
  refine eqL (SqL.of ha) (SqL.of hc) (by omega) fun j hj => ?_
  obtain ⟨v, hv, bv⟩ := paired_get h1 (List.getElem?_eq_getElem (show j < zs.length by omega))
  obtain ⟨u, hu, bu⟩ := paired_get h2 (List.getElem?_eq_getElem (show j < zs.length by omega))
  rw [List.getD_eq_getElem?_getD, hv, List.getD_eq_getElem?_getD, hu]
  exact eq_iv bv bu
theorem cut_ints (ns : List Int) (lo hi : Option Int) : ∃ ms : List Int, cutV (ns.map V.int) lo hi = ms.map V.int := by
  unfold cutV
  rw [← List.map_drop, ← List.map_take]
  exact ⟨_, rfl⟩
theorem lx_i2 {p q : Nat × Nat} (h : Lt2 p q) : lx (i2 q) (i2 p) = false := by
  have e : lx (i2 q) (i2 p) = (decide ((q.1 : Int) < p.1) || (decide ((q.1 : Int) = p.1) && (decide ((q.2 : Int) < p.2) || (decide ((q.2 : Int) = p.2) && false)))) := rfl
  rw [e]
  unfold Lt2 at h
  have h1 : decide ((q.1 : Int) < p.1) = false := decide_eq_false (by omega)
  rw [h1]
  by_cases c : (q.1 : Int) = p.1
  · have h2 : decide ((q.2 : Int) < p.2) = false := decide_eq_false (by omega)
    rw [h2, decide_eq_true c]
    simp
  · rw [decide_eq_false c]
    rfl
theorem srt_pairs {R : Bx → Bx → Bool} {ds : List Bx} {z : List (List Int)} (p : z.Perm ((prs R ds ds.length).map i2)) (s : z.Pairwise (fun a b => lx b a = false)) : z = (prs R ds ds.length).map i2 := by
  have len : ∀ a ∈ z, a.length = 2 := fun a ha => by
    obtain ⟨b, _, rfl⟩ := List.mem_map.mp (p.subset ha)
    rfl
  refine srt_uniq (fun a ha b hb h1 h2 => lx_anti (by rw [len a ha, len b hb]) h2 h1) p s ?_
  rw [List.pairwise_map]
  exact (prs_sorted R ds ds.length).imp lx_i2
theorem boxes_but {T : Addr} {H H' : Hp} {ps : Array Value} (hT : H T = some (.tbl ps)) (S : But T H H') {vs : List V} {bs : List Bx} (h : BoxesAt H vs bs) : BoxesAt H' vs bs := Paired.imp' (fun _ _ ⟨a, e, z⟩ => ⟨a, e, S _ _ (ne_of z hT (by intro q; cases q)) z⟩) h
theorem pe_tyn {X : Cx} {x : Str} {T : String} {pos : Pos} (hg : Gl X x) (hm : X.mg x = none) (hv : bootBuiltins x = some (.type T)) (hn : x ≠ "__name__" := by decide) (hd : (x == ("__debug__" : Str)) = false := by decide) : PE X (.Name x pos) (tC (.ty T)) := pe_bltn hg hm hv rfl hn hd
def kT (q : Nat × Nat) : List Key := (i2 q).map Sum.inl
theorem kT_inj {p q : Nat × Nat} (h : kT p = kT q) : p = q := by
  unfold kT i2 at h
  simp at h
  exact Prod.ext (by omega) (by omega)
def KyT (kvs : List (List Key × V)) (zs : List (Nat × Nat)) : Prop := kvs.map (·.1) = zs.map kT
theorem KyT.len {kvs : List (List Key × V)} {zs : List (Nat × Nat)} (h : KyT kvs zs) : kvs.length = zs.length := by
  have := congrArg List.length h
  rwa [List.length_map, List.length_map] at this
theorem keysT {kvs : List (List Key × V)} {k : List Key} {v : V} : (putK kvs k v).map (·.1) = if (valV kvs k).isSome then kvs.map (·.1) else kvs.map (·.1) ++ [k] := by
  unfold putK
  rw [valV_any]
  split
  · rw [List.map_map]
    refine List.map_congr_left fun p _ => ?_
    show (if p.1 = k then (p.1, v) else p).1 = p.1
    split <;> rfl
  · rw [List.map_append]
    rfl
theorem KyT.put {kvs : List (List Key × V)} {zs : List (Nat × Nat)} {v : V} {m : Nat × Nat} (h : KyT kvs zs) (nd : zs.Nodup) : ∃ zs', KyT (putK kvs (kT m) v) zs' ∧ zs'.Nodup ∧ (∀ k, k ∈ zs' ↔ k ∈ zs ∨ k = m) := by
  cases e : valV kvs (kT m) with
  | none =>
    have nm : m ∉ zs := fun z => valV_not e (by rw [h]; exact List.mem_map.mpr ⟨m, z, rfl⟩)
    refine ⟨zs ++ [m], ?_, List.nodup_append.mpr ⟨nd, by simp, fun a ha b hb => by rw [List.mem_singleton.mp hb]; exact fun z => nm (z ▸ ha)⟩, fun k => by simp⟩
    unfold KyT
    rw [keysT, e, h, List.map_append]
    rfl
  | some u =>
    have im : m ∈ zs := by
      have := valV_in e
      rw [h] at this
      obtain ⟨z, hz, ez⟩ := List.mem_map.mp this
      rw [← kT_inj ez]
      exact hz
    refine ⟨zs, ?_, nd, fun k => ⟨.inl, fun z => z.elim id fun z => z ▸ im⟩⟩
    unfold KyT
    rw [keysT, e, h]
    rfl
structure GI2 (c : Nat → Nat → Option (Nat × Nat)) (tgt : List (Nat × Nat)) (y x : Nat) (z : List (Nat × Nat)) : Prop where
  nd : z.Nodup
  sub : ∀ q ∈ z, q ∈ tgt
  all : ∀ x' y' : Nat, (y' < y ∨ (y' = y ∧ x' < x)) → x' < 12 → y' < 12 → ∀ p, c x' y' = some p → p ∈ z
section
variable {c : Nat → Nat → Option (Nat × Nat)} {tgt : List (Nat × Nat)} {y x : Nat} {z : List (Nat × Nat)}
theorem GI2.start : GI2 c tgt 0 0 [] := ⟨List.nodup_nil, (fun q h => nomatch h), fun x' y' h => by omega⟩
theorem GI2.skip (g : GI2 c tgt y x z) (h : c x y = none) : GI2 c tgt y (x + 1) z := ⟨g.nd, g.sub, fun x' y' d hx hy p e => by
  by_cases w : y' = y ∧ x' = x
  · rw [w.1, w.2, h] at e
    cases e
  · exact g.all x' y' (by omega) hx hy p e⟩
theorem GI2.add (g : GI2 c tgt y x z) {p : Nat × Nat} (h : c x y = some p) (ht : p ∈ tgt) {z' : List (Nat × Nat)} (nd : z'.Nodup) (m : ∀ k, k ∈ z' ↔ k ∈ z ∨ k = p) : GI2 c tgt y (x + 1) z' := ⟨nd, fun q hq => by
    rcases (m q).mp hq with w | w
    · exact g.sub q w
    · rw [w]; exact ht, fun x' y' d hx hy p' e => by
  by_cases w : y' = y ∧ x' = x
  · rw [w.1, w.2, h] at e
    cases e
    exact (m _).mpr (.inr rfl)
  · exact (m _).mpr (.inl (g.all x' y' (by omega) hx hy p' e))⟩
theorem GI2.row (g : GI2 c tgt y 12 z) : GI2 c tgt (y + 1) 0 z := ⟨g.nd, g.sub, fun x' y' d hx hy => g.all x' y' (by omega) hx hy⟩
theorem GI2.perm (g : GI2 c tgt 12 0 z) (nt : tgt.Nodup) (h : ∀ q ∈ tgt, ∃ x y : Nat, x < 12 ∧ y < 12 ∧ c x y = some q) : z.Perm tgt := (List.perm_ext_iff_of_nodup g.nd nt).mpr fun q => ⟨g.sub q, fun hq => by
  obtain ⟨x, y, hx, hy, e⟩ := h q hq
  exact g.all x y (.inl hy) hx hy q e⟩
end
def cA (g : List Bx) (x y : Nat) : Option (Nat × Nat) := if 0 < x ∧ idx g ((x - 1 : Nat) : Int) y ≠ idx g x y then some (idx g ((x - 1 : Nat) : Int) y, idx g x y) else none
def cB (g : List Bx) (x y : Nat) : Option (Nat × Nat) := if 0 < y ∧ idx g x ((y - 1 : Nat) : Int) ≠ idx g x y then some (idx g x ((y - 1 : Nat) : Int), idx g x y) else none
theorem cA_in {g : List Bx} (T : Tiles g (12 : Nat) (12 : Nat)) {x y : Nat} (hx : x < 12) (hy : y < 12) {p : Nat × Nat} (h : cA g x y = some p) : p ∈ prs bsd g g.length := by
  unfold cA at h
  split at h
  · next c =>
    cases h
    exact (beside_iff T).mpr ⟨x, y, by omega, by omega, by omega, by omega, by rw [show (x : Int) - 1 = ((x - 1 : Nat) : Int) by omega], rfl, c.2⟩
  · cases h
theorem cB_in {g : List Bx} (T : Tiles g (12 : Nat) (12 : Nat)) {x y : Nat} (hx : x < 12) (hy : y < 12) {p : Nat × Nat} (h : cB g x y = some p) : p ∈ prs bnt g g.length := by
  unfold cB at h
  split at h
  · next c =>
    cases h
    exact (beneath_iff T).mpr ⟨x, y, by omega, by omega, by omega, by omega, by rw [show (y : Int) - 1 = ((y - 1 : Nat) : Int) by omega], rfl, c.2⟩
  · cases h
theorem cA_all {g : List Bx} (T : Tiles g (12 : Nat) (12 : Nat)) : ∀ q ∈ prs bsd g g.length, ∃ x y : Nat, x < 12 ∧ y < 12 ∧ cA g x y = some q := fun q hq => by
  obtain ⟨x, y, x0, x1, y0, y1, e1, e2, ne⟩ := (beside_iff T).mp (show (q.1, q.2) ∈ _ from hq)
  obtain ⟨a, rfl⟩ := Int.eq_ofNat_of_zero_le (show 0 ≤ x by omega)
  obtain ⟨b, rfl⟩ := Int.eq_ofNat_of_zero_le y0
  rw [show (a : Int) - 1 = ((a - 1 : Nat) : Int) by omega] at e1
  refine ⟨a, b, by omega, by omega, ?_⟩
  unfold cA
  rw [if_pos ⟨by omega, by rw [e1, e2]; exact ne⟩, e1, e2]
theorem cB_all {g : List Bx} (T : Tiles g (12 : Nat) (12 : Nat)) : ∀ q ∈ prs bnt g g.length, ∃ x y : Nat, x < 12 ∧ y < 12 ∧ cB g x y = some q := fun q hq => by
  obtain ⟨x, y, x0, x1, y0, y1, e1, e2, ne⟩ := (beneath_iff T).mp (show (q.1, q.2) ∈ _ from hq)
  obtain ⟨a, rfl⟩ := Int.eq_ofNat_of_zero_le x0
  obtain ⟨b, rfl⟩ := Int.eq_ofNat_of_zero_le (show 0 ≤ y by omega)
  rw [show (b : Int) - 1 = ((b - 1 : Nat) : Int) by omega] at e1
  refine ⟨a, b, by omega, by omega, ?_⟩
  unfold cB
  rw [if_pos ⟨by omega, by rw [e1, e2]; exact ne⟩, e1, e2]
theorem range_at {f : Nat → V} {x : Nat} (h : x < 12) : atI ((List.range 12).map f) (x : Int) = some (f x) := atI_nat (by rw [List.getElem?_map, List.getElem?_range h]; rfl)
def spTold : Sp := fun vs H Q _ => ∃ (l d : Addr) (us vs' : List V) (zs : List (Nat × Nat)), vs = [.ref l, .ref d] ∧ H l = some (.lst us) ∧ H d = some (.lst vs') ∧ IvsAt H us (zs.map i2) ∧ IvsAt H vs' (zs.map i2) ∧ ∀ H', Same H H' → Q (.bl true) H'
section
variable {P : Program} {w : World} {K : PySem.W.Frag} {mg : Str → Option Value} {base : Heap}
theorem scTold : FnScope ["found", "due", "pair", "number"] ["found", "due"] (defScope sTold) := ⟨rfl, rfl, rfl, by decide +kernel, rfl, by decide +kernel, by decide +kernel⟩
theorem ok_told {f : Addr} {fd : FuncData} (F : Fun K "_law_told" "_law_told" sTold f fd) (ti : mg "isinstance" = none) (tint : mg "int" = none) (tbool : mg "bool" = none) (ttup : mg "tuple" = none) (tlist : mg "list" = none) (ib : PySem.W.kitOne K (.type "int") (.type "bool") = some false) : FnOk P w K mg base CX0 1 f fd ["found", "due"] spTold := by
  refine F.ok scTold (fun vs H Q E h => ?_) (fun cdv A outer s H vs Q E hr h => ?_)
  · obtain ⟨l, d, us, vs', zs, rfl, _⟩ := h
    rfl
  · obtain ⟨l, d, us, vs', zs, rfl, hl, hd, hU, hV, q⟩ := h
    refine ⟨_, (pss_cons (ps_if (PW.pt (pw_or (pt_not (pt_val (pe_callB call_isi (by rfl) ti PyProof.Rows.boot_isinstance (pa_cons (pv 0) (pa_cons (pe_tyn rfl tlist PyProof.Rows.boot_list) pa_nil))))) (pw_or1 (pt_cmpR (op_neR hr.units) (pv 0) (pv 1) (nomark _)))))
      (pss_one (ps_ret pe_bl))
      pss_nil)
      (pss_cons (ps_for PassesOwn.never rfl (pi_list (pv 0)) (pg_name (i := 2) scTold.nd rfl (Or.inl rfl))
      (pss_cons (ps_if (pt_not (pt_val (pe_callB call_isi (by rfl) ti PyProof.Rows.boot_isinstance (pa_cons (pv 2) (pa_cons (pe_tyn rfl ttup PyProof.Rows.boot_tuple) pa_nil)))))
        (pss_one (ps_ret pe_bl))
        pss_nil)
        (pss_one (ps_for PassesOwn.never rfl (pi_tup (pv 2)) (pg_name (i := 3) scTold.nd rfl (Or.inl rfl))
        (pss_one (ps_if (PW.pt (pw_or (pt_not (pt_val (pe_callB call_isi (by rfl) ti PyProof.Rows.boot_isinstance (pa_cons (pv 3) (pa_cons (pe_tyn rfl tint PyProof.Rows.boot_int) pa_nil))))) (pw_or1 (pt_val (pe_callB call_isi (by rfl) ti PyProof.Rows.boot_isinstance (pa_cons (pv 3) (pa_cons (pe_tyn rfl tbool PyProof.Rows.boot_bool) pa_nil)))))))
          (pss_one (ps_ret pe_bl))
          pss_nil))))))
      (pss_one (ps_ret pe_bl)))), ?_⟩
    refine ⟨_, rfl, _, _, _, _, rfl, rfl, .of (.lst hl), rfl, _, rfl, iteF ?_⟩
    refine ⟨_, rfl, _, rfl, l, d, 2, true, rfl, rfl, eq_ivs hl hd hU hV, by decide, _, rfl, iteF ?_⟩
    refine run_next ?_
    dsimp only
    refine ⟨_, rfl, l, rfl, ⟨_, SqL.of hl⟩, ?_⟩
    refine for_list (K := K) (a := l) (xs := us) (fun i σ H3 => ∃ o2 o3 : Option V, σ = [some (.ref l), some (.ref d), o2, o3] ∧ Same H H3)
      ⟨none, none, rfl, Same.refl _⟩ (fun i σ H2 _ ⟨_, _, _, s2⟩ => SqL.of (s2 _ _ hl)) ?_ ?_
    · rintro i u σ H3 hi ⟨o2, o3, rfl, S3⟩
      obtain ⟨z, hz, p, rfl, hp⟩ := paired_get' hU hi
      rw [List.getElem?_map] at hz
      obtain ⟨b, hb, rfl⟩ := Option.map_eq_some_iff.mp hz
      refine run_gname ?_
      refine ⟨_, rfl, _, _, _, _, rfl, rfl, .of (.tup (S3 _ _ hp)), rfl, _, rfl, iteF ?_⟩
      refine run_next ?_
      dsimp only
      refine ⟨_, rfl, p, rfl, ⟨_, SqT.of (S3 _ _ hp)⟩, ?_⟩
      refine for_tup (K := K) (a := p) (xs := (i2 b).map V.int) (fun i σ H4 => ∃ o3 : Option V, σ = [some (.ref l), some (.ref d), some (.ref p), o3] ∧ Same H H4)
        ⟨_, rfl, S3⟩ (fun i σ H2 _ ⟨_, _, s2⟩ => SqT.of (s2 _ _ hp)) ?_ ?_
      · rintro j u σ H4 hj ⟨o3, rfl, S4⟩
        obtain ⟨n, rfl⟩ : ∃ n, u = .int n := by
          match j, hj with
          | 0, hj => exact ⟨_, (Option.some.inj hj).symm⟩
          | 1, hj => exact ⟨_, (Option.some.inj hj).symm⟩
        refine run_gname ?_
        refine ⟨_, rfl, _, _, _, _, rfl, rfl, .of (.int _), rfl, _, rfl, iteF ?_⟩
        exact ⟨_, rfl, _, _, _, _, rfl, rfl, .of (.int _), ib, _, rfl, iteF ⟨_, rfl, S4⟩⟩
      · rintro σ H4 ⟨o3, rfl, S4⟩
        exact ⟨_, _, rfl, S4⟩
    · rintro σ H3 ⟨o2, o3, rfl, S3⟩
      exact q _ S3
end
end KO
set_option Elab.async false
set_option linter.all false
set_option maxRecDepth 100000
set_option maxHeartbeats 4000000
namespace KO
open PySem L2 Til PySem.W
abbrev lamQ : Str := ("law" : Str) ++ ".<locals>." ++ "<lambda>"
def spLaw (K : PySem.W.Frag) (T0 T1 : Addr) : Sp := fun vs H Q _ => ∃ (a : Addr) (ns : List Int), vs = [.ref a] ∧ SqL K H a (ns.map V.int) ∧ H T0 = some (.tbl #[]) ∧ H T1 = some (.tbl #[]) ∧ ∀ H', Q (.bl true) H'
theorem tpf_off {H H' : Hp} {d1 d2 : Addr} (S : ∀ b o, b ≠ d1 → b ≠ d2 → H b = some o → H' b = some o) {o1 o2 : HO} (h1 : H d1 = some o1) (h2 : H d2 = some o2) (n1 : ∀ (ob : Obj) (xs : List V), HO.frz ob (.tup xs) ≠ o1) (n2 : ∀ (ob : Obj) (xs : List V), HO.frz ob (.tup xs) ≠ o2) {a : Addr} {xs : List V} (h : TpF H a xs) : TpF H' a xs := let ⟨ob, e, r⟩ := h; ⟨ob, S _ _ (ne_of e h1 (n1 _ _)) (ne_of e h2 (n2 _ _)) e, r⟩
theorem page_off {H H' : Hp} {d1 d2 : Addr} (S : ∀ b o, b ≠ d1 → b ≠ d2 → H b = some o → H' b = some o) {o1 o2 : HO} (h1 : H d1 = some o1) (h2 : H d2 = some o2) (n1 : ∀ (ob : Obj) (xs : List V), HO.frz ob (.tup xs) ≠ o1) (n2 : ∀ (ob : Obj) (xs : List V), HO.frz ob (.tup xs) ≠ o2) (t1 : ∀ xs : List V, HO.tup xs ≠ o1) (t2 : ∀ xs : List V, HO.tup xs ≠ o2) {pg : Addr} {W G : Int} {cs : List Bx} (h : PageAt H pg W G cs) : PageAt H' pg W G cs := by
  obtain ⟨tb, us, a, b, c, d⟩ := h
  exact ⟨tb, us, S _ _ (ne_of a h1 (t1 _)) (ne_of a h2 (t2 _)) a, tpf_off S h1 h2 n1 n2 b, Paired.imp' (fun _ _ ⟨p, e, z⟩ => ⟨p, e, S _ _ (ne_of z h1 (t1 _)) (ne_of z h2 (t2 _)) z⟩) c, d⟩
theorem tst_ne {ta tb : TE} {σ : St} {H : Hp} {i j : Int} (a : Evl ta σ H (.int i)) (b : Evl tb σ H (.int j)) : Tst (tTest (tOp rNe ta tb)) σ H (¬ i = j) := tst_of (fun Q z => a _ (b _ ⟨rfl, by
  have e : (!decide (V.int i = V.int j)) = decide (¬ i = j) := by
    rw [Bool.eq_iff_iff]
    simp
  rw [e]
  exact z⟩))
section
variable {P : Program} {w : World} {K : PySem.W.Frag} {mg : Str → Option Value} {base : Heap}
theorem scLaw : FnScope ["script", "most", "xs", "ys", "grid", "page", "rows", "across", "down", "y", "x", "found", "some"] ["script"] (defScope sLaw) := ⟨rfl, rfl, rfl, by decide +kernel, rfl, by decide +kernel, by decide +kernel⟩
theorem ok_law {f c T T2 fCe fLn fLa fGd fOw fBs fBn fTo : Addr} {fd dCe dLn dLa dGd dOw dBs dBn dTo : FuncData} (F : Fun K "law" "law" sLaw f fd) (hcode : fd.code = .ref c) (C : PySem.W.CodeHd base c T2) (hBM : BMain mg base) (tr : mg "range" = none) (ts : mg "sorted" = none) (ttup : mg "tuple" = none) (hTT : T2 ≠ T)
    (Ce : Callee P w K mg base CX0 2 "_law_cell" fCe dCe ["script", "k"] (spCell K)) (Ln : Callee P w K mg base CX0 3 "_law_lines" fLn dLn ["script", "first", "many", "most"] (spLines K))
    (La : Callee P w K mg base CX0 4 "_law_laid" fLa dLa ["boxes", "xs", "ys"] (spLaid T)) (Gd : Callee P w K mg base CX0 2 "_law_grid" fGd dGd ["cells", "many"] (spGrid K)) (Ow : Callee P w K mg base CX0 1 "_law_owners" fOw dOw ["boxes", "many"] spOwn)
    (Bs : Callee P w K mg base CX0 3 "beside" fBs dBs ["page"] (spBes bsd)) (Bn : Callee P w K mg base CX0 3 "beneath" fBn dBn ["page"] (spBes bnt)) (To : Callee P w K mg base CX0 1 "_law_told" fTo dTo ["found", "due"] spTold) : FnOk P w K mg base CX0 5 f fd ["script"] (spLaw K T T2) := by
  refine F.okC scLaw (fun vs H Q E h => ?_) (fun A outer s H vs Q E hr h => ?_)
  · obtain ⟨a, ns, rfl, _⟩ := h
    rfl
  · obtain ⟨a, ns, rfl, hS, hT, hT2, q⟩ := h
    refine ⟨_, (pss_cons (ps_set (i := 1) scLaw.nd rfl (Or.inl rfl) (pe_ix ix_list (pe_lst (pa_cons pe_int (pa_cons pe_int pa_nil))) (pe_op op_mod (pe_call Ce.ok (hr.mono (show 2 ≤ 4 by decide)) rfl Ce.bound Ce.kp Ce.bd .nil pass0 (pa_cons (pv 0) (pa_cons pe_int pa_nil))) pe_int) (fun _ _ => rfl)))
      (pss_cons (ps_set (i := 2) scLaw.nd rfl (Or.inl rfl) (pe_call Ln.ok (hr.mono (show 3 ≤ 4 by decide)) rfl Ln.bound Ln.kp Ln.bd .nil pass0 (pa_cons (pv 0) (pa_cons pe_int (pa_cons pe_int (pa_cons (pv 1) pa_nil))))))
      (pss_cons (ps_set (i := 3) scLaw.nd rfl (Or.inl rfl) (pe_call Ln.ok (hr.mono (show 3 ≤ 4 by decide)) rfl Ln.bound Ln.kp Ln.bd .nil pass0 (pa_cons (pv 0) (pa_cons pe_int (pa_cons pe_int (pa_cons (pv 1) pa_nil))))))
      (pss_cons (ps_set (i := 4) scLaw.nd rfl (Or.inl rfl) (by refine pe_sortG (qual := lamQ) rfl ts (pe_call Gd.ok (hr.mono (show 2 ≤ 4 by decide)) rfl Gd.bound Gd.kp Gd.bd .nil pass0 (pa_cons (pe_slice sl_list (pv 0) (po_some pe_int) (po_some pe_int)) (pa_cons pe_int pa_nil))) (pe_lam2 (c := c) (P := T2) hcode C hBM rfl rfl) (hr.mono (show 3 ≤ 4 by decide)) ?s1 ?s2 ?s3; (case s1 => exact ⟨rfl, rfl, rfl, by decide +kernel, rfl, by decide +kernel, by decide +kernel⟩); (case s2 => exact fun _ _ _ _ => rfl); (case s3 => exact fun _ _ _ _ _ _ => pe_tup (pa_cons (pe_ix ix_tup (pv 0) pe_int (fun _ _ => rfl)) (pa_cons (pe_ix ix_tup (pv 0) pe_int (fun _ _ => rfl)) pa_nil)))))
      (pss_cons (ps_set (i := 5) scLaw.nd rfl (Or.inl rfl) (pe_tup (pa_cons (pe_ix ix_list (pv 2) (pe_un un_neg pe_int) (fun _ _ => rfl)) (pa_cons (pe_ix ix_list (pv 3) (pe_un un_neg pe_int) (fun _ _ => rfl)) (pa_cons (pe_callTy call_tuple_fz rfl ttup PyProof.Rows.boot_tuple (pa_cons (pe_call La.ok hr rfl La.bound La.kp La.bd .nil pass0 (pa_cons (pv 4) (pa_cons (pv 2) (pa_cons (pv 3) pa_nil)))) pa_nil)) pa_nil)))))
      (pss_cons (ps_set (i := 6) scLaw.nd rfl (Or.inl rfl) (pe_call Ow.ok (hr.mono (show 1 ≤ 4 by decide)) rfl Ow.bound Ow.kp Ow.bd .nil pass0 (pa_cons (pv 4) (pa_cons pe_int pa_nil))))
      (pss_cons (ps_set (i := 7) scLaw.nd rfl (Or.inl rfl) pe_dnewT)
      (pss_cons (ps_set (i := 8) scLaw.nd rfl (Or.inl rfl) pe_dnewT)
      (pss_cons (ps_for PassesOwn.never rfl (pi_range1 rfl tr (pa_cons pe_int pa_nil)) (pg_name (i := 9) scLaw.nd rfl (Or.inl rfl))
      (pss_one (ps_for PassesOwn.never rfl (pi_range1 rfl tr (pa_cons pe_int pa_nil)) (pg_name (i := 10) scLaw.nd rfl (Or.inl rfl))
        (pss_cons (ps_if (PW.pt (pw_and (pt_cmpR op_gt (pv 10) pe_int (nomark _)) (pw_and1 (pt_cmpR op_ne (pe_ix ix_list (pe_ix ix_list (pv 6) (pv 9) (fun _ _ => rfl)) (pe_op op_sub (pv 10) pe_int) (fun _ _ => rfl)) (pe_ix ix_list (pe_ix ix_list (pv 6) (pv 9) (fun _ _ => rfl)) (pv 10) (fun _ _ => rfl)) (nomark _)))))
          (pss_one (ps_dput (Nat.lt_of_le_of_lt (Nat.add_le_add_left (show 1 ≤ 64 by decide) _) hr.units) (pv 7) (pe_tup (pa_cons (pe_ix ix_list (pe_ix ix_list (pv 6) (pv 9) (fun _ _ => rfl)) (pe_op op_sub (pv 10) pe_int) (fun _ _ => rfl)) (pa_cons (pe_ix ix_list (pe_ix ix_list (pv 6) (pv 9) (fun _ _ => rfl)) (pv 10) (fun _ _ => rfl)) pa_nil))) pe_bl rfl))
          pss_nil)
          (pss_one (ps_if (PW.pt (pw_and (pt_cmpR op_gt (pv 9) pe_int (nomark _)) (pw_and1 (pt_cmpR op_ne (pe_ix ix_list (pe_ix ix_list (pv 6) (pe_op op_sub (pv 9) pe_int) (fun _ _ => rfl)) (pv 10) (fun _ _ => rfl)) (pe_ix ix_list (pe_ix ix_list (pv 6) (pv 9) (fun _ _ => rfl)) (pv 10) (fun _ _ => rfl)) (nomark _)))))
          (pss_one (ps_dput (Nat.lt_of_le_of_lt (Nat.add_le_add_left (show 1 ≤ 64 by decide) _) hr.units) (pv 8) (pe_tup (pa_cons (pe_ix ix_list (pe_ix ix_list (pv 6) (pe_op op_sub (pv 9) pe_int) (fun _ _ => rfl)) (pv 10) (fun _ _ => rfl)) (pa_cons (pe_ix ix_list (pe_ix ix_list (pv 6) (pv 9) (fun _ _ => rfl)) (pv 10) (fun _ _ => rfl)) pa_nil))) pe_bl rfl))
          pss_nil))))))
      (pss_cons (ps_set (i := 11) scLaw.nd rfl (Or.inl rfl) (pe_lst (pa_cons (pe_call Bs.ok (hr.mono (show 3 ≤ 4 by decide)) rfl Bs.bound Bs.kp Bs.bd .nil pass0 (pa_cons (pv 5) pa_nil)) (pa_cons (pe_call Bn.ok (hr.mono (show 3 ≤ 4 by decide)) rfl Bn.bound Bn.kp Bn.bd .nil pass0 (pa_cons (pv 5) pa_nil)) pa_nil))))
      (pss_cons (ps_if (PW.pt (pw_or (pt_not (pt_val (pe_call To.ok (hr.mono (show 1 ≤ 4 by decide)) rfl To.bound To.kp To.bd .nil pass0 (pa_cons (pe_ix ix_list (pv 11) pe_int (fun _ _ => rfl)) (pa_cons (pe_sortDT rfl ts rfl (pv 7)) pa_nil))))) (pw_or1 (pt_not (pt_val (pe_call To.ok (hr.mono (show 1 ≤ 4 by decide)) rfl To.bound To.kp To.bd .nil pass0 (pa_cons (pe_ix ix_list (pv 11) pe_int (fun _ _ => rfl)) (pa_cons (pe_sortDT rfl ts rfl (pv 8)) pa_nil))))))))
      (pss_one (ps_ret pe_bl))
      pss_nil)
      (pss_cons (ps_for PassesOwn.never rfl (pi_list (pv 11)) (pg_name (i := 12) scLaw.nd rfl (Or.inl rfl))
      (pss_cons (ps_expr (pe_bm PySem.F.plainAttrs_list PySem.F.slot_list_append PySem.F.type_list_append mt_append (pv 12) (pa_cons (pe_tup (pa_cons pe_int (pa_cons pe_int pa_nil))) pa_nil)))
        (pss_one (ps_asg (pe_tup (pa_cons pe_int (pa_cons pe_int pa_nil))) (pg_sub (pv 12) pe_int set_list)))))
      (pss_one (ps_ret (pe_and (pe_call To.ok (hr.mono (show 1 ≤ 4 by decide)) rfl To.bound To.kp To.bd .nil pass0 (pa_cons (pe_call Bs.ok (hr.mono (show 3 ≤ 4 by decide)) rfl Bs.bound Bs.kp Bs.bd .nil pass0 (pa_cons (pv 5) pa_nil)) (pa_cons (pe_sortDT rfl ts rfl (pv 7)) pa_nil))) (pe_one (pe_call To.ok (hr.mono (show 1 ≤ 4 by decide)) rfl To.bound To.kp To.bd .nil pass0 (pa_cons (pe_call Bn.ok (hr.mono (show 3 ≤ 4 by decide)) rfl Bn.bound Bn.kp Bn.bd .nil pass0 (pa_cons (pv 5) pa_nil)) (pa_cons (pe_sortDT rfl ts rfl (pv 8)) pa_nil))))))))))))))))))), ?_⟩
    refine ⟨by show 2 ≤ sizeLine; decide, fun p0 n0 => ⟨_, rfl, a, ns, 0, rfl, (same_new n0).seq hS, by omega, by omega, fun c0 => ?_⟩⟩
    obtain ⟨m, em, hm⟩ : ∃ m : Int, atI [V.int 3, .int 4000] (c0 % 2) = some (.int m) ∧ 0 < m := by
      rcases (show c0 % 2 = 0 ∨ c0 % 2 = 1 by omega) with e | e
      · exact ⟨3, by rw [e]; rfl, by decide⟩
      · exact ⟨4000, by rw [e]; rfl, by decide⟩
    refine ⟨_, _, rfl, rfl, (by show (0 : Int) < 2; decide), p0, _, _, _, rfl, rfl, SqL.of upd_same, em, ?_⟩
    refine fresh (R := fun H1 => _) n0 fun H1 S1 _ => ?_
    refine ⟨_, rfl, _, rfl, a, ns, 2, m, 12, rfl, S1.seq hS, by decide, by decide, by decide, hm, fun lx xs H2 S2 _ hlx Rx lenx x0 => ?_⟩
    have S12 := S1.trans S2
    refine ⟨_, rfl, _, rfl, a, ns, 17, m, 12, rfl, S12.seq hS, by decide, by decide, by decide, hm, fun ly ys H3 S3 _ hly Ry leny y0 => ?_⟩
    have S13 := S12.trans S3
    obtain ⟨cells, hcut⟩ := cut_ints ns (some 2) (some 62)
    obtain ⟨W, hW⟩ : ∃ W, W = xs.getD 12 0 := ⟨_, rfl⟩
    obtain ⟨G, hG⟩ : ∃ G, G = ys.getD 12 0 := ⟨_, rfl⟩
    have ax : atI (xs.map V.int) (-1) = some (.int W) := by
      rw [at_lastI (by omega), lenx, show 12 + 1 - 1 = 12 from rfl, hW]
    have ay : atI (ys.map V.int) (-1) = some (.int G) := by
      rw [at_lastI (by omega), leny, show 12 + 1 - 1 = 12 from rfl, hG]
    refine ⟨_, rfl, _, rfl, _, rfl, a, _, rfl, S13.seq hS, fun pc nc => ?_⟩
    rw [hcut]
    refine ⟨pc, cells, 12, rfl, SqL.of upd_same, by decide, fun lb us0 bs H5 S5 hlb hB Ti hlen => ?_⟩
    have S35 : Same H3 H5 := (same_new nc).trans S5
    have S15 := S13.trans S35
    have hT5 := S15 _ _ hT
    have hT25 := S15 _ _ hT2
    have lu0 := hB.len
    have lp0 := tiles_pos Ti (by decide) (by decide)
    refine ⟨LamAt.fresh hT25, fun ff cc H6 B6 hff hcc _ => ?_⟩
    have nT2 : ∀ {b : Addr} {ys : List V}, H5 b = some (.lst ys) → b ≠ T2 := fun h => ne_of h hT25 (by intro z; cases z)
    have hlx6 := B6 _ _ (nT2 ((S3.trans S35) _ _ hlx)) ((S3.trans S35) _ _ hlx)
    have hly6 := B6 _ _ (nT2 (S35 _ _ hly)) (S35 _ _ hly)
    have hT6 := B6 _ _ hTT.symm hT5
    have hB6 := boxes_but hT25 B6 hB
    refine ⟨lb, ff, cc, us0, bs.map (fun b => (b.t, b.l)), 12, rfl, rfl, hff, hcc, SqL.of (B6 _ _ (nT2 hlb) hlb), by omega, by omega, by rw [List.length_map]; omega, fun z hz => ?_, fun i x z hx hz => ?_, fun D p2 H7 S7 hD po2 pu2 => ?_⟩
    · obtain ⟨b, hb, rfl⟩ := List.mem_map.mp hz
      have o := Ti.wf b hb
      exact ⟨o.h0, by have := o.h1; have := o.h2; simp only; omega⟩
    · rw [List.getElem?_map] at hz
      cases e : bs[i]? with
      | none => rw [e] at hz; cases hz
      | some b =>
        rw [e] at hz
        cases hz
        obtain ⟨v, hv, p', rfl, hp'⟩ := hB6.get e
        rw [hx] at hv
        cases hv
        exact ⟨p', bxV b, rfl, hp', rfl, rfl⟩
    rw [lu0] at po2 pu2
    have SD := same_new (o := .lst (p2.toList.map fun i => us0.getD i .non)) hD
    have hgr : (upd H7 D (.lst (p2.toList.map fun i => us0.getD i .non))) D = some (.lst (picked .non p2 us0)) := upd_same
    have stg := picked_sorted po2 (fun b hb => by have o := Ti.wf b hb; exact ⟨o.h0, by have := o.h1; have := o.h2; omega⟩) pu2
    have Tg := tiles_perm Ti (picked_perm (d := bx0) po2)
    have lg := picked_len (d := bx0) po2
    have hBg := (boxes_picked hB6 po2).same (S7.trans SD)
    have hlx8 := (S7.trans SD) _ _ hlx6
    have hly8 := (S7.trans SD) _ _ hly6
    have hT8 := (S7.trans SD) _ _ hT6
    generalize upd H7 D (.lst (p2.toList.map fun i => us0.getD i .non)) = H8 at hgr hBg hlx8 hly8 hT8
    generalize picked bx0 p2 bs = g at stg Tg lg hBg
    generalize picked V.non p2 us0 = ug at hgr hBg
    clear hT hT2 hT5 hT25 hT6 S1 S2 S3 S5 S7 S12 S13 S15 S35 SD hB hB6 hlb hlx hly hS hlx6 hly6 nT2 B6 hff hcc po2 pu2 hD Ti lu0 lp0
    have l24 : g.length ≤ 24 := by omega
    refine run_gname ?_
    dsimp only
    refine ⟨_, rfl, 1, rfl, _, _, _, _, rfl, rfl, SqL.of hlx8, ax, _, rfl, 1, rfl, _, _, _, _, rfl, rfl, SqL.of hly8, ay, ?_⟩
    refine ⟨_, rfl, _, rfl, _, rfl, D, lx, ly, ug, g, xs, ys, 12, rfl, hgr, hBg, Tg, by decide, l24, hlx8, hly8, Rx, Ry, lenx, leny, x0, y0, hT8, fun D2 vs cs H9 S9 hD2 hV perm st => ?_⟩
    have nT : ∀ {b : Addr} {ys : List V}, H8 b = some (.lst ys) → b ≠ T := fun h => ne_of h hT8 (by intro z; cases z)
    have hgr9 := S9 _ _ (nT hgr) hgr
    have hBg9 := boxes_sameT hT8 S9 hBg
    have TL' := tiles_laid Tg Rx Ry lenx leny x0 y0
    have ecs : cs = g.map (lay xs ys) := sorted_same TL' perm st (by
      rw [List.pairwise_map]
      exact List.Pairwise.imp_of_mem (fun {b c} hb hc h => tl_lay Rx Ry lenx leny (Tg.wf b hb) (Tg.wf c hc) h) stg)
    have TT : Tiles cs W G := by
      rw [hW, hG]
      exact tiles_perm TL' perm
    have w0 : 0 < W := by have := Rx 0 12 (by omega) (by omega); omega
    have g0 : 0 < G := by have := Ry 0 12 (by omega) (by omega); omega
    have lcs : cs.length = g.length := by rw [ecs, List.length_map]
    have gD : ∀ i, i < g.length → cs.getD i Til.bx0 = lay xs ys (g.getD i Til.bx0) := fun i hi => by
      rw [ecs, getB (by rw [List.length_map]; exact hi), getB hi, List.getElem_map]
    have okg : ∀ i, i < g.length → Ok ((12 : Nat) : Int) ((12 : Nat) : Int) (g.getD i Til.bx0) := fun i hi => by
      rw [getB hi]
      exact Tg.wf _ (List.getElem_mem hi)
    have eA : prs bsd cs cs.length = prs bsd g g.length := prs_congr lcs fun i j hi hj => by
      rw [gD i (by omega), gD j (by omega)]
      exact bsd_lay Rx Ry lenx leny (okg i (by omega)) (okg j (by omega))
    have eB : prs bnt cs cs.length = prs bnt g g.length := prs_congr lcs fun i j hi hj => by
      rw [gD i (by omega), gD j (by omega)]
      exact bnt_lay Rx Ry lenx leny (okg i (by omega)) (okg j (by omega))
    have fewA := bsd_few TT
    have fewB := bnt_few TT
    clear S9 hT8 hlx8 hly8 hgr hBg nT perm st stg TL' gD okg
    refine ⟨D2, vs, rfl, SqL.of hD2, fun tb ob ntb hoc hod => ⟨by show 3 ≤ sizeLine; decide, fun pg npg => ?_⟩⟩
    have ST := same_new (o := .frz ob (.tup vs)) ntb
    have SP := same_new (o := .tup [.int W, .int G, .ref tb]) npg
    have hPG : PageAt (upd (upd H9 tb (.frz ob (.tup vs))) pg (.tup [.int W, .int G, .ref tb])) pg W G cs := ⟨tb, vs, upd_same, (TpF.new hoc hod).same SP, hV.same (ST.trans SP), by omega⟩
    have hgr := (ST.trans SP) _ _ hgr9
    have hBg := hBg9.same (ST.trans SP)
    generalize upd (upd H9 tb (.frz ob (.tup vs))) pg (.tup [.int W, .int G, .ref tb]) = H10 at hPG hgr hBg
    clear ST SP hV hD2 ntb npg hoc hod hgr9 hBg9
    refine run_gname ?_
    dsimp only
    refine ⟨_, rfl, D, ug, g, 12, rfl, hgr, hBg, Tg, l24, by decide, fun lr qs val H11 S11 hR hval => ?_⟩
    have hPG11 := hPG.same S11
    clear hPG hgr hBg S11
    refine run_gname ?_
    dsimp only
    intro d1 nd1
    refine run_gname ?_
    dsimp only
    intro d2 nd2
    have U1 := same_new (o := .dT []) nd1
    have U2 := same_new (o := .dT []) nd2
    have hd1 : (upd (upd H11 d1 (.dT [])) d2 (.dT [])) d1 = some (.dT []) := U2 _ _ upd_same
    have hd2 : (upd (upd H11 d1 (.dT [])) d2 (.dT [])) d2 = some (.dT []) := upd_same
    have n12 : d1 ≠ d2 := ne_of_none (show (upd H11 d1 (.dT [])) d1 = some (.dT []) from upd_same) nd2
    have hPG := hPG11.same (U1.trans U2)
    have R := hR.same (U1.trans U2)
    generalize upd (upd H11 d1 (.dT [])) d2 (.dT []) = H12 at hd1 hd2 hPG R
    clear U1 U2 nd1 nd2 hPG11 hR
    refine run_gname ?_
    dsimp only
    have lst1 : ∀ {b : Addr} {ys : List V}, H12 b = some (.lst ys) → b ≠ d1 := fun h => ne_of h hd1 (by intro z; cases z)
    have lst2 : ∀ {b : Addr} {ys : List V}, H12 b = some (.lst ys) → b ≠ d2 := fun h => ne_of h hd2 (by intro z; cases z)
    refine ⟨12, rfl, by decide, by decide, ?_⟩
    refine for_range (lo := 0) (n := 12) (fun y σ H' => ∃ (o9 o10 : Option V) (ka kd : List (List Key × V)) (za zd : List (Nat × Nat)), σ = [some (.ref a), some (.int m), some (.ref lx), some (.ref ly), some (.ref D), some (.ref pg), some (.ref lr), some (.ref d1), some (.ref d2), o9, o10, none, none] ∧ (∀ b o, b ≠ d1 → b ≠ d2 → H12 b = some o → H' b = some o) ∧ H' d1 = some (.dT ka) ∧ H' d2 = some (.dT kd) ∧ KyT ka za ∧ KyT kd zd ∧ GI2 (cA g) (prs bsd g g.length) y 0 za ∧ GI2 (cB g) (prs bnt g g.length) y 0 zd)
      ⟨none, none, [], [], [], [], rfl, fun b o _ _ e => e, hd1, hd2, rfl, rfl, GI2.start, GI2.start⟩ ?_ ?_
    · rintro y σ H13 hy ⟨o9, o10, ka, kd, za, zd, rfl, B13, h1, h2, k1, k2, ga, gb⟩
      rw [show (0 : Int) + (y : Int) = (y : Int) from Int.zero_add _]
      refine run_gname ?_
      refine ⟨12, rfl, by decide, by decide, ?_⟩
      refine for_range (lo := 0) (n := 12) (fun x σ H' => ∃ (o10 : Option V) (ka kd : List (List Key × V)) (za zd : List (Nat × Nat)), σ = [some (.ref a), some (.int m), some (.ref lx), some (.ref ly), some (.ref D), some (.ref pg), some (.ref lr), some (.ref d1), some (.ref d2), some (.int (y : Int)), o10, none, none] ∧ (∀ b o, b ≠ d1 → b ≠ d2 → H12 b = some o → H' b = some o) ∧ H' d1 = some (.dT ka) ∧ H' d2 = some (.dT kd) ∧ KyT ka za ∧ KyT kd zd ∧ GI2 (cA g) (prs bsd g g.length) y x za ∧ GI2 (cB g) (prs bnt g g.length) y x zd)
        ⟨o10, ka, kd, za, zd, rfl, B13, h1, h2, k1, k2, ga, gb⟩ ?_ ?_
      · rintro x σ H14 hx ⟨o10, ka, kd, za, zd, rfl, B14, h1, h2, k1, k2, ga, gb⟩
        rw [show (0 : Int) + (x : Int) = (x : Int) from Int.zero_add _]
        have hlr : ∀ {H' : Hp}, (∀ b o, b ≠ d1 → b ≠ d2 → H12 b = some o → H' b = some o) → H' lr = some (.lst (qs.map V.ref)) := fun B => B _ _ (lst1 R.lst) (lst2 R.lst) R.lst
        have row : ∀ (j : Nat), j < 12 → ∃ qj, (qs.map V.ref)[j]? = some (.ref qj) ∧ ∀ {H' : Hp}, (∀ b o, b ≠ d1 → b ≠ d2 → H12 b = some o → H' b = some o) → H' qj = some (.lst ((List.range 12).map fun i : Nat => V.int ((val i j : Nat) : Int))) := fun j hj => by
          have hl : j < qs.length := by rw [R.len]; exact hj
          have e := List.getElem?_eq_getElem hl
          have r := R.row j qs[j] e
          exact ⟨qs[j], by rw [List.getElem?_map, e]; rfl, fun B => B _ _ (lst1 r) (lst2 r) r⟩
        have vA : ∀ i j : Nat, i < 12 → j < 12 → val i j = idx g i j := fun i j hi hj => hval i j hi hj
        obtain ⟨qy, hqy, rowy⟩ := row y hy
        refine run_gname ?_
        refine seq_via (G := fun σ H' => ∃ (ka : List (List Key × V)) (za : List (Nat × Nat)), σ = [some (.ref a), some (.int m), some (.ref lx), some (.ref ly), some (.ref D), some (.ref pg), some (.ref lr), some (.ref d1), some (.ref d2), some (.int (y : Int)), some (.int (x : Int)), none, none] ∧ (∀ b o, b ≠ d1 → b ≠ d2 → H12 b = some o → H' b = some o) ∧ H' d1 = some (.dT ka) ∧ H' d2 = some (.dT kd) ∧ KyT ka za ∧ GI2 (cA g) (prs bsd g g.length) y (x + 1) za) (fun N kk => ?_) ?_
        · refine tst_if (p := (x : Int) > 0 ∧ ¬ (((val (x - 1) y : Nat) : Int) = ((val x y : Nat) : Int))) (tst_andL (tst_of (evl_I0 (evl_var rfl) evl_c)) fun px => ?_) (fun cc => ?_) (fun cc => ?_)
          · refine tst_ne (evl_ixL (evl_ixL (evl_var rfl) (evl_var rfl) (SqL.of (hlr B14)) (atI_nat hqy)) (evl_I0 (evl_var rfl) evl_c) (SqL.of (rowy B14)) ?_) (evl_ixL (evl_ixL (evl_var rfl) (evl_var rfl) (SqL.of (hlr B14)) (atI_nat hqy)) (evl_var rfl) (SqL.of (rowy B14)) (range_at hx))
            rw [show (x : Int) - 1 = ((x - 1 : Nat) : Int) by omega]
            exact range_at (by omega)
          · have ax1 : atI ((List.range 12).map fun i : Nat => V.int ((val i y : Nat) : Int)) ((x : Int) - 1) = some (.int ((val (x - 1) y : Nat) : Int)) := by
              rw [show (x : Int) - 1 = ((x - 1 : Nat) : Int) by omega]
              exact range_at (by omega)
            refine ⟨_, rfl, _, rfl, _, rfl, lr, _, _, _, rfl, rfl, SqL.of (hlr B14), atI_nat hqy, _, rfl, _, _, rfl, rfl, qy, _, _, _, rfl, rfl, SqL.of (rowy B14), ax1, _, rfl, _, rfl, lr, _, _, _, rfl, rfl, SqL.of (hlr B14), atI_nat hqy, _, rfl, qy, _, _, _, rfl, rfl, SqL.of (rowy B14), range_at hx, by show 2 ≤ sizeLine; decide, fun tp ntp => ?_⟩
            have St := same_new (o := .tup [.int ((val (x - 1) y : Nat) : Int), .int ((val x y : Nat) : Int)]) ntp
            have htp : (upd H14 tp (.tup [.int ((val (x - 1) y : Nat) : Int), .int ((val x y : Nat) : Int)])) tp = some (.tup ((kT (val (x - 1) y, val x y)).map kV)) := upd_same
            generalize upd H14 tp (.tup [.int ((val (x - 1) y : Nat) : Int), .int ((val x y : Nat) : Int)]) = H15 at St htp
            obtain ⟨za', k1', nd', mem'⟩ := k1.put (v := .bl true) (m := (val (x - 1) y, val x y)) ga.nd
            have lza := Nat.le_trans (List.Nodup.length_le_of_subset ga.nd ga.sub) (prs_len bsd g g.length)
            refine ⟨d1, _, rfl, DPut.t (k := kT (val (x - 1) y, val x y)) (St _ _ h1) htp (by rw [k1.len]; exact Nat.lt_of_le_of_lt (Nat.le_trans lza (Nat.mul_le_mul l24 l24)) (by decide)), ?_⟩
            have hc : cA g x y = some (val (x - 1) y, val x y) := by
              unfold cA
              rw [← vA _ _ (show x - 1 < 12 by omega) hy, ← vA _ _ hx hy, if_pos ⟨by omega, fun z => cc.2 (by rw [z])⟩]
            exact kk _ _ ⟨_, za', rfl, fun b o b1 b2 e => by rw [upd_ne b1]; exact St _ _ (B14 b o b1 b2 e), upd_same, by rw [upd_ne n12.symm]; exact St _ _ h2, k1', ga.add hc (cA_in Tg hx hy hc) nd' mem'⟩
          · refine run_next ?_
            dsimp only
            refine kk _ _ ⟨ka, za, rfl, B14, h1, h2, k1, ga.skip ?_⟩
            unfold cA
            rw [if_neg]
            rintro ⟨c1, c2⟩
            refine cc ⟨by omega, fun z => c2 ?_⟩
            rw [← vA _ _ (show x - 1 < 12 by omega) hy, ← vA _ _ hx hy]
            omega
        · rintro σ H15 ⟨ka, za, rfl, B15, h1, h2, k1, ga⟩
          refine tst_if (p := (y : Int) > 0 ∧ ¬ (((val x (y - 1) : Nat) : Int) = ((val x y : Nat) : Int))) (tst_andL (tst_of (evl_I0 (evl_var rfl) evl_c)) fun px => ?_) (fun cc => ?_) (fun cc => ?_)
          · obtain ⟨qz, hqz, rowz⟩ := row (y - 1) (by omega)
            refine tst_ne (evl_ixL (evl_ixL (evl_var rfl) (evl_I0 (evl_var rfl) evl_c) (SqL.of (hlr B15)) (by rw [show (y : Int) - 1 = ((y - 1 : Nat) : Int) by omega]; exact atI_nat hqz)) (evl_var rfl) (SqL.of (rowz B15)) (range_at hx)) (evl_ixL (evl_ixL (evl_var rfl) (evl_var rfl) (SqL.of (hlr B15)) (atI_nat hqy)) (evl_var rfl) (SqL.of (rowy B15)) (range_at hx))
          · obtain ⟨qz, hqz, rowz⟩ := row (y - 1) (by omega)
            have ay1 : atI (qs.map V.ref) ((y : Int) - 1) = some (.ref qz) := by
              rw [show (y : Int) - 1 = ((y - 1 : Nat) : Int) by omega]
              exact atI_nat hqz
            refine ⟨_, rfl, _, rfl, _, rfl, _, _, rfl, rfl, lr, _, _, _, rfl, rfl, SqL.of (hlr B15), ay1, _, rfl, qz, _, _, _, rfl, rfl, SqL.of (rowz B15), range_at hx, _, rfl, _, rfl, lr, _, _, _, rfl, rfl, SqL.of (hlr B15), atI_nat hqy, _, rfl, qy, _, _, _, rfl, rfl, SqL.of (rowy B15), range_at hx, by show 2 ≤ sizeLine; decide, fun tp ntp => ?_⟩
            have St := same_new (o := .tup [.int ((val x (y - 1) : Nat) : Int), .int ((val x y : Nat) : Int)]) ntp
            have htp : (upd H15 tp (.tup [.int ((val x (y - 1) : Nat) : Int), .int ((val x y : Nat) : Int)])) tp = some (.tup ((kT (val x (y - 1), val x y)).map kV)) := upd_same
            generalize upd H15 tp (.tup [.int ((val x (y - 1) : Nat) : Int), .int ((val x y : Nat) : Int)]) = H16 at St htp
            obtain ⟨zd', k2', nd', mem'⟩ := k2.put (v := .bl true) (m := (val x (y - 1), val x y)) gb.nd
            have lzd := Nat.le_trans (List.Nodup.length_le_of_subset gb.nd gb.sub) (prs_len bnt g g.length)
            refine ⟨d2, _, rfl, DPut.t (k := kT (val x (y - 1), val x y)) (St _ _ h2) htp (by rw [k2.len]; exact Nat.lt_of_le_of_lt (Nat.le_trans lzd (Nat.mul_le_mul l24 l24)) (by decide)), ?_⟩
            have hc : cB g x y = some (val x (y - 1), val x y) := by
              unfold cB
              rw [← vA _ _ hx (show y - 1 < 12 by omega), ← vA _ _ hx hy, if_pos ⟨by omega, fun z => cc.2 (by rw [z])⟩]
            exact ⟨_, ka, _, za, zd', rfl, fun b o b1 b2 e => by rw [upd_ne b2]; exact St _ _ (B15 b o b1 b2 e), by rw [upd_ne n12]; exact St _ _ h1, upd_same, k1, k2', ga, gb.add hc (cB_in Tg hx hy hc) nd' mem'⟩
          · refine run_next ?_
            dsimp only
            refine ⟨_, ka, kd, za, zd, rfl, B15, h1, h2, k1, k2, ga, gb.skip ?_⟩
            unfold cB
            rw [if_neg]
            rintro ⟨c1, c2⟩
            refine cc ⟨by omega, fun z => c2 ?_⟩
            rw [← vA _ _ hx (show y - 1 < 12 by omega), ← vA _ _ hx hy]
            omega
      · rintro σ H14 ⟨o10, ka, kd, za, zd, rfl, B14, h1, h2, k1, k2, ga, gb⟩
        exact ⟨_, _, ka, kd, za, zd, rfl, B14, h1, h2, k1, k2, ga.row, gb.row⟩
    rintro σ H13 ⟨o9, o10, ka, kd, za, zd, rfl, B13, h1, h2, k1, k2, ga, gb⟩
    have pA := ga.perm (prs_nodup _ _ _) (cA_all Tg)
    have pB := gb.perm (prs_nodup _ _ _) (cB_all Tg)
    rw [← eA] at pA
    rw [← eB] at pB
    have lA := pA.length_eq
    have lB := pB.length_eq
    have hPG13 := page_off B13 hd1 hd2 (fun _ _ z => by cases z) (fun _ _ z => by cases z) (fun _ z => by cases z) (fun _ z => by cases z) hPG
    have e1 : ka.map (·.1) = (za.map i2).map (fun z => z.map Sum.inl) := by
      rw [List.map_map]
      exact k1
    have e2 : kd.map (·.1) = (zd.map i2).map (fun z => z.map Sum.inl) := by
      rw [List.map_map]
      exact k2
    have ln2 : ∀ (L : List (Nat × Nat)), ∀ z ∈ L.map i2, z.length = 1 + 1 := fun L z hz => by
      obtain ⟨b, _, rfl⟩ := List.mem_map.mp hz
      rfl
    clear B13 hd1 hd2 hPG R lst1 lst2 ga gb k1 k2
    refine ⟨_, rfl, pg, W, G, cs, rfl, hPG13, fun l1 v1 Ha Sa f1 hl1 i1 => ⟨_, rfl, pg, W, G, cs, rfl, hPG13.same Sa, fun l2 v2 Hb Sb f2 hl2 i2' => ⟨by show 2 ≤ sizeLine; decide, fun lf nlf => ?_⟩⟩⟩
    have n12' : l1 ≠ l2 := ne_of_none hl1 f2
    have Sf := same_new (o := .lst [.ref l1, .ref l2]) nlf
    have hlf : (upd Hb lf (.lst [.ref l1, .ref l2])) lf = some (.lst [.ref l1, .ref l2]) := upd_same
    have hl1' := (Sb.trans Sf) _ _ hl1
    have hl2' := Sf _ _ hl2
    have i1f := i1.same (Sb.trans Sf)
    have i2f := i2'.same Sf
    have A14 := Sa.trans (Sb.trans Sf)
    have nf1 : lf ≠ l1 := (ne_of_none (Sb _ _ hl1) nlf).symm
    have nf2 : lf ≠ l2 := (ne_of_none hl2 nlf).symm
    generalize upd Hb lf (.lst [.ref l1, .ref l2]) = H14 at Sf hlf hl1' hl2' i1f i2f A14
    have hd1 := A14 _ _ h1
    have hd2 := A14 _ _ h2
    have hPG := hPG13.same A14
    have lv1 := i1f.len
    have lv2 := i2f.len
    rw [List.length_map] at lv1 lv2
    clear Sa Sb Sf f1 f2 hl1 hl2 i1 i2' A14 h1 h2 hPG13 nlf
    refine run_gname ?_
    dsimp only
    refine ⟨_, rfl, _, _, _, _, rfl, rfl, SqL.of hlf, rfl, _, rfl, d1, ka, za.map i2, 1, rfl, hd1, e1, by rw [List.length_map]; omega, ln2 _, fun Dd u z nD pz sz iz => ?_⟩
    have SD1 := same_new (o := .lst u) nD
    have ez := srt_pairs (pz.trans (pA.map i2)) sz
    subst ez
    refine ⟨l1, Dd, v1, u, _, rfl, SD1 _ _ hl1', upd_same, i1f.same SD1, iz.same SD1, fun H15 S15 => ⟨_, rfl, iteF ?_⟩⟩
    have A15 := SD1.trans S15
    clear SD1 S15 nD pz sz iz
    refine ⟨_, rfl, _, _, _, _, rfl, rfl, SqL.of (A15 _ _ hlf), rfl, _, rfl, d2, kd, zd.map i2, 1, rfl, A15 _ _ hd2, e2, by rw [List.length_map]; omega, ln2 _, fun Dd u z nD pz sz iz => ?_⟩
    have SD1 := same_new (o := .lst u) nD
    have ez := srt_pairs (pz.trans (pB.map i2)) sz
    subst ez
    refine ⟨l2, Dd, v2, u, _, rfl, (A15.trans SD1) _ _ hl2', upd_same, i2f.same (A15.trans SD1), iz.same SD1, fun H16 S16 => ⟨_, rfl, iteF ?_⟩⟩
    have A16 := A15.trans (SD1.trans S16)
    clear SD1 S16 nD pz sz iz A15
    refine run_next ?_
    dsimp only
    refine ⟨_, rfl, lf, rfl, ⟨_, SqL.of (A16 _ _ hlf)⟩, ?_⟩
    refine for_list (K := K) (a := lf) (xs := [.ref l1, .ref l2]) (fun j σ H' => ∃ (o12 : Option V) (x1 x2 : List V), σ = [some (.ref a), some (.int m), some (.ref lx), some (.ref ly), some (.ref D), some (.ref pg), some (.ref lr), some (.ref d1), some (.ref d2), o9, o10, some (.ref lf), o12] ∧ (∀ b o, b ≠ l1 → b ≠ l2 → H16 b = some o → H' b = some o) ∧ H' l1 = some (.lst x1) ∧ H' l2 = some (.lst x2) ∧ x1.length ≤ 60 + j ∧ x2.length ≤ 60 + j)
      ⟨none, v1, v2, rfl, fun b o _ _ e => e, A16 _ _ hl1', A16 _ _ hl2', by omega, by omega⟩ (fun j σ H' _ ⟨_, _, _, _, B, _⟩ => SqL.of (B _ _ nf1 nf2 (A16 _ _ hlf))) ?_ ?_
    · rintro j x σ H17 hx ⟨o12, x1, x2, rfl, B17, hx1, hx2, q1, q2⟩
      have one : ∀ (lq : Addr) (xq : List V), (lq = l1 ∨ lq = l2) → H17 lq = some (.lst xq) → xq.length ≤ 60 + j → j < 2 → ∀ {R : Hp → Prop}, (∀ (H' : Hp) (yq : List V), (∀ b o, b ≠ lq → H17 b = some o → H' b = some o) → H' lq = some (.lst yq) → yq.length ≤ 60 + (j + 1) → R H') → ∀ (tp tp2 : Addr), H17 tp = none → (upd (upd H17 tp (.tup [.int 0, .int 0])) lq (.lst (xq ++ [V.ref tp]))) tp2 = none → R (upd (upd (upd (upd H17 tp (.tup [.int 0, .int 0])) lq (.lst (xq ++ [V.ref tp]))) tp2 (.tup [.int 1, .int 1])) lq (.lst ((xq ++ [V.ref tp]).set 0 (V.ref tp2)))) := by
        intro lq xq hq h hl hj R fin tp tp2 n1 n2
        refine fin _ _ (fun b o nb e => ?_) upd_same (by rw [List.length_set, List.length_append, List.length_singleton]; omega)
        have e1 : upd H17 tp (.tup [.int 0, .int 0]) b = some o := by rw [upd_ne (ne_of_none e n1)]; exact e
        have e2 : upd (upd H17 tp (.tup [.int 0, .int 0])) lq (.lst (xq ++ [.ref tp])) b = some o := by rw [upd_ne nb]; exact e1
        rw [upd_ne nb, upd_ne (ne_of_none e2 n2)]
        exact e2
      have hj : j < 2 := (List.getElem?_eq_some_iff.mp hx).1
      match j, hx, q1, q2, hj, @one with
      | 0, hx, q1, q2, hj, one =>
        cases hx
        refine run_gname ?_
        refine ⟨_, rfl, .inl ⟨rfl, _, SqL.of hx1⟩, by show 2 ≤ sizeLine; decide, fun tp ntp => ⟨l1, x1, _, rfl, rfl, same_new ntp _ _ hx1, Nat.lt_of_le_of_lt (show x1.length ≤ 1000 by omega) (by decide), ?_⟩⟩
        dsimp only
        refine ⟨by show 2 ≤ sizeLine; decide, fun tp2 ntp2 => ⟨_, rfl, l1, _, _, 0, rfl, rfl, same_new ntp2 _ _ upd_same, ixN_nat (i := 0) (by rw [List.length_append]; exact Nat.succ_pos _), ?_⟩⟩
        refine one l1 x1 (.inl rfl) hx1 q1 hj (fun H' yq B hy ly => ?_) tp tp2 ntp ntp2
        exact ⟨_, yq, x2, rfl, fun b o b1 b2 e => B b o b1 (B17 b o b1 b2 e), hy, B _ _ n12'.symm hx2, ly, by omega⟩
      | 1, hx, q1, q2, hj, one =>
        cases hx
        refine run_gname ?_
        refine ⟨_, rfl, .inl ⟨rfl, _, SqL.of hx2⟩, by show 2 ≤ sizeLine; decide, fun tp ntp => ⟨l2, x2, _, rfl, rfl, same_new ntp _ _ hx2, Nat.lt_of_le_of_lt (show x2.length ≤ 1000 by omega) (by decide), ?_⟩⟩
        dsimp only
        refine ⟨by show 2 ≤ sizeLine; decide, fun tp2 ntp2 => ⟨_, rfl, l2, _, _, 0, rfl, rfl, same_new ntp2 _ _ upd_same, ixN_nat (i := 0) (by rw [List.length_append]; exact Nat.succ_pos _), ?_⟩⟩
        refine one l2 x2 (.inr rfl) hx2 q2 hj (fun H' yq B hy ly => ?_) tp tp2 ntp ntp2
        exact ⟨_, x1, yq, rfl, fun b o b1 b2 e => B b o b2 (B17 b o b1 b2 e), B _ _ n12' hx1, hy, by omega, ly⟩
      | j + 2, hx, _, _, _, _ => cases hx
    rintro σ H17 ⟨o12, x1, x2, rfl, B17, hx1, hx2, q1, q2⟩
    have hPG17 := page_off B17 (A16 _ _ hl1') (A16 _ _ hl2') (fun _ _ z => by cases z) (fun _ _ z => by cases z) (fun _ z => by cases z) (fun _ z => by cases z) (hPG.same A16)
    have hd17 := B17 _ _ (ne_of (A16 _ _ hd1) (A16 _ _ hl1') (by intro z; cases z)) (ne_of (A16 _ _ hd1) (A16 _ _ hl2') (by intro z; cases z)) (A16 _ _ hd1)
    have hd27 := B17 _ _ (ne_of (A16 _ _ hd2) (A16 _ _ hl1') (by intro z; cases z)) (ne_of (A16 _ _ hd2) (A16 _ _ hl2') (by intro z; cases z)) (A16 _ _ hd2)
    refine ⟨_, rfl, pg, W, G, cs, rfl, hPG17, fun l3 v3 Hc Sc _ hl3 i3' => ?_⟩
    refine ⟨_, rfl, d1, ka, za.map i2, 1, rfl, Sc _ _ hd17, e1, by rw [List.length_map]; omega, ln2 _, fun Dd u z nD pz sz iz => ?_⟩
    have SD1 := same_new (o := .lst u) nD
    have ez := srt_pairs (pz.trans (pA.map i2)) sz
    subst ez
    refine ⟨l3, Dd, v3, u, _, rfl, SD1 _ _ hl3, upd_same, i3'.same SD1, iz.same SD1, fun H18 S18 => ⟨_, rfl, iteT ?_⟩⟩
    have A18 := Sc.trans (SD1.trans S18)
    clear SD1 S18 nD pz sz iz Sc
    refine ⟨_, rfl, pg, W, G, cs, rfl, hPG17.same A18, fun l4 v4 Hd Sd _ hl4 i4' => ?_⟩
    refine ⟨_, rfl, d2, kd, zd.map i2, 1, rfl, (A18.trans Sd) _ _ hd27, e2, by rw [List.length_map]; omega, ln2 _, fun Dd u z nD pz sz iz => ?_⟩
    have SD1 := same_new (o := .lst u) nD
    have ez := srt_pairs (pz.trans (pB.map i2)) sz
    subst ez
    exact ⟨l4, Dd, v4, u, _, rfl, SD1 _ _ hl4, upd_same, i4'.same SD1, iz.same SD1, fun H19 S19 => q _⟩
end
end KO
set_option Elab.async false
set_option linter.all false
set_option maxRecDepth 100000
set_option maxHeartbeats 4000000
namespace KO
open PySem L2 Til
theorem all_mk {l : PySem.W.OpenLaw} {w : World} {K : PySem.W.Frag} {h : Heap} {mg : Str → Option Value} {fa cc0 T0 cc1 T1 f0 f1 f2 f3 f4 f5 f6 f7 f8 f9 f10 f11 f12 f13 f14  : Addr} (X : K.In h) (G : h.Ns mainGlobals mg) (hfa : mg "law" = some (.ref fa)) (Cd0 : PySem.W.CodeHd h cc0 T0) (Cd1 : PySem.W.CodeHd h cc1 T1) (hTT : T1 ≠ T0)
    {od0 od1 od2 od3 od4 od5 od6 od7 od8 od9 od10 od11 od12 od13 od14 an0 an1 an2 an3 an4 an5 an6 an7 an8 an9 an10 an11 an12 an13 an14 : Option Addr} {sl0 sl1 sl2 sl3 sl4 sl5 sl6 sl7 sl8 sl9 sl10 sl11 sl12 sl13 sl14 : Array (Option Value)} {oc0 kV0 dc0 pm0 cd0 ct0 oc1 kV1 dc1 pm1 cd1 ct1 oc2 kV2 dc2 pm2 cd2 ct2 oc3 kV3 dc3 pm3 cd3 ct3 oc4 kV4 dc4 pm4 cd4 ct4 oc5 kV5 dc5 pm5 cd5 ct5 oc6 kV6 dc6 pm6 cd6 ct6 oc7 kV7 dc7 pm7 cd7 ct7 oc8 kV8 dc8 pm8 cd8 ct8 oc9 kV9 dc9 pm9 cd9 ct9 oc10 kV10 dc10 pm10 cd10 ct10 oc11 kV11 dc11 pm11 ct11 oc12 kV12 dc12 pm12 cd12 ct12 oc13 kV13 dc13 pm13 cd13 ct13 oc14 kV14 dc14 pm14 ct14 : Value} {oC0 oC1 : Obj}  {t_LEFT t_TOP t_RIGHT t_BELOW t_BOXES : Tok}
    (a0 : PySem.W.nsIn K mainGlobals "is_beside" = some (some (.ref f0)))
    (l0 : K.lookup f0 = some ⟨oc0, od0, .func (PySem.W.fnOf "is_beside" "is_beside" (defArgs sIsB) (defBody sIsB) (defScope sIsB) .none kV0 dc0 pm0 an0 cd0 ct0), sl0⟩)
    (c0 : PySem.W.codeIn K cd0 "is_beside" = true)
    (k0 : PySem.W.keepIn K (.ref f0) = true)
    (a1 : PySem.W.nsIn K mainGlobals "is_beneath" = some (some (.ref f1)))
    (l1 : K.lookup f1 = some ⟨oc1, od1, .func (PySem.W.fnOf "is_beneath" "is_beneath" (defArgs sIsD) (defBody sIsD) (defScope sIsD) .none kV1 dc1 pm1 an1 cd1 ct1), sl1⟩)
    (c1 : PySem.W.codeIn K cd1 "is_beneath" = true)
    (k1 : PySem.W.keepIn K (.ref f1) = true)
    (a2 : PySem.W.nsIn K mainGlobals "pairs" = some (some (.ref f2)))
    (l2 : K.lookup f2 = some ⟨oc2, od2, .func (PySem.W.fnOf "pairs" "pairs" (defArgs sPairs) (defBody sPairs) (defScope sPairs) .none kV2 dc2 pm2 an2 cd2 ct2), sl2⟩)
    (c2 : PySem.W.codeIn K cd2 "pairs" = true)
    (k2 : PySem.W.keepIn K (.ref f2) = true)
    (a3 : PySem.W.nsIn K mainGlobals "beside" = some (some (.ref f3)))
    (l3 : K.lookup f3 = some ⟨oc3, od3, .func (PySem.W.fnOf "beside" "beside" (defArgs sBeside) (defBody sBeside) (defScope sBeside) .none kV3 dc3 pm3 an3 cd3 ct3), sl3⟩)
    (c3 : PySem.W.codeIn K cd3 "beside" = true)
    (k3 : PySem.W.keepIn K (.ref f3) = true)
    (a4 : PySem.W.nsIn K mainGlobals "beneath" = some (some (.ref f4)))
    (l4 : K.lookup f4 = some ⟨oc4, od4, .func (PySem.W.fnOf "beneath" "beneath" (defArgs sBeneath) (defBody sBeneath) (defScope sBeneath) .none kV4 dc4 pm4 an4 cd4 ct4), sl4⟩)
    (c4 : PySem.W.codeIn K cd4 "beneath" = true)
    (k4 : PySem.W.keepIn K (.ref f4) = true)
    (a5 : PySem.W.nsIn K mainGlobals "_law_stir" = some (some (.ref f5)))
    (l5 : K.lookup f5 = some ⟨oc5, od5, .func (PySem.W.fnOf "_law_stir" "_law_stir" (defArgs sStir) (defBody sStir) (defScope sStir) .none kV5 dc5 pm5 an5 cd5 ct5), sl5⟩)
    (c5 : PySem.W.codeIn K cd5 "_law_stir" = true)
    (k5 : PySem.W.keepIn K (.ref f5) = true)
    (a6 : PySem.W.nsIn K mainGlobals "_law_cell" = some (some (.ref f6)))
    (l6 : K.lookup f6 = some ⟨oc6, od6, .func (PySem.W.fnOf "_law_cell" "_law_cell" (defArgs sCell) (defBody sCell) (defScope sCell) .none kV6 dc6 pm6 an6 cd6 ct6), sl6⟩)
    (c6 : PySem.W.codeIn K cd6 "_law_cell" = true)
    (k6 : PySem.W.keepIn K (.ref f6) = true)
    (a7 : PySem.W.nsIn K mainGlobals "_law_grown" = some (some (.ref f7)))
    (l7 : K.lookup f7 = some ⟨oc7, od7, .func (PySem.W.fnOf "_law_grown" "_law_grown" (defArgs sGrown) (defBody sGrown) (defScope sGrown) .none kV7 dc7 pm7 an7 cd7 ct7), sl7⟩)
    (c7 : PySem.W.codeIn K cd7 "_law_grown" = true)
    (k7 : PySem.W.keepIn K (.ref f7) = true)
    (a8 : PySem.W.nsIn K mainGlobals "_law_wheel" = some (some (.ref f8)))
    (l8 : K.lookup f8 = some ⟨oc8, od8, .func (PySem.W.fnOf "_law_wheel" "_law_wheel" (defArgs sWheel) (defBody sWheel) (defScope sWheel) .none kV8 dc8 pm8 an8 cd8 ct8), sl8⟩)
    (c8 : PySem.W.codeIn K cd8 "_law_wheel" = true)
    (k8 : PySem.W.keepIn K (.ref f8) = true)
    (a9 : PySem.W.nsIn K mainGlobals "_law_grid" = some (some (.ref f9)))
    (l9 : K.lookup f9 = some ⟨oc9, od9, .func (PySem.W.fnOf "_law_grid" "_law_grid" (defArgs sGrid) (defBody sGrid) (defScope sGrid) .none kV9 dc9 pm9 an9 cd9 ct9), sl9⟩)
    (c9 : PySem.W.codeIn K cd9 "_law_grid" = true)
    (k9 : PySem.W.keepIn K (.ref f9) = true)
    (a10 : PySem.W.nsIn K mainGlobals "_law_lines" = some (some (.ref f10)))
    (l10 : K.lookup f10 = some ⟨oc10, od10, .func (PySem.W.fnOf "_law_lines" "_law_lines" (defArgs sLines) (defBody sLines) (defScope sLines) .none kV10 dc10 pm10 an10 cd10 ct10), sl10⟩)
    (c10 : PySem.W.codeIn K cd10 "_law_lines" = true)
    (k10 : PySem.W.keepIn K (.ref f10) = true)
    (a11 : PySem.W.nsIn K mainGlobals "_law_laid" = some (some (.ref f11)))
    (l11 : K.lookup f11 = some ⟨oc11, od11, .func (PySem.W.fnOf "_law_laid" "_law_laid" (defArgs sLaid) (defBody sLaid) (defScope sLaid) .none kV11 dc11 pm11 an11 (.ref cc0) ct11), sl11⟩)
    (c11 : PySem.W.codeIn K (.ref cc0) "_law_laid" = true)
    (k11 : PySem.W.keepIn K (.ref f11) = true)
    (a12 : PySem.W.nsIn K mainGlobals "_law_owners" = some (some (.ref f12)))
    (l12 : K.lookup f12 = some ⟨oc12, od12, .func (PySem.W.fnOf "_law_owners" "_law_owners" (defArgs sOwn) (defBody sOwn) (defScope sOwn) .none kV12 dc12 pm12 an12 cd12 ct12), sl12⟩)
    (c12 : PySem.W.codeIn K cd12 "_law_owners" = true)
    (k12 : PySem.W.keepIn K (.ref f12) = true)
    (a13 : PySem.W.nsIn K mainGlobals "_law_told" = some (some (.ref f13)))
    (l13 : K.lookup f13 = some ⟨oc13, od13, .func (PySem.W.fnOf "_law_told" "_law_told" (defArgs sTold) (defBody sTold) (defScope sTold) .none kV13 dc13 pm13 an13 cd13 ct13), sl13⟩)
    (c13 : PySem.W.codeIn K cd13 "_law_told" = true)
    (k13 : PySem.W.keepIn K (.ref f13) = true)
    (a14 : PySem.W.nsIn K mainGlobals "law" = some (some (.ref f14)))
    (l14 : K.lookup f14 = some ⟨oc14, od14, .func (PySem.W.fnOf "law" "law" (defArgs sLaw) (defBody sLaw) (defScope sLaw) .none kV14 dc14 pm14 an14 (.ref cc1) ct14), sl14⟩)
    (c14 : PySem.W.codeIn K (.ref cc1) "law" = true)
    (k14 : PySem.W.keepIn K (.ref f14) = true)
    (lc0 : K.lookup cc0 = some oC0)
    (lc1 : K.lookup cc1 = some oC1)
    (z_len : PySem.W.nsIn K mainGlobals "len" = some none)
    (z_range : PySem.W.nsIn K mainGlobals "range" = some none)
    (z_min : PySem.W.nsIn K mainGlobals "min" = some none)
    (z_max : PySem.W.nsIn K mainGlobals "max" = some none)
    (z_sorted : PySem.W.nsIn K mainGlobals "sorted" = some none)
    (z_enumerate : PySem.W.nsIn K mainGlobals "enumerate" = some none)
    (z_tuple : PySem.W.nsIn K mainGlobals "tuple" = some none)
    (z_isinstance : PySem.W.nsIn K mainGlobals "isinstance" = some none)
    (z_int : PySem.W.nsIn K mainGlobals "int" = some none)
    (z_bool : PySem.W.nsIn K mainGlobals "bool" = some none)
    (z_list : PySem.W.nsIn K mainGlobals "list" = some none)
    (g_LEFT : PySem.W.nsIn K mainGlobals "LEFT" = some (some (.int 0 t_LEFT)))
    (g_TOP : PySem.W.nsIn K mainGlobals "TOP" = some (some (.int 1 t_TOP)))
    (g_RIGHT : PySem.W.nsIn K mainGlobals "RIGHT" = some (some (.int 2 t_RIGHT)))
    (g_BELOW : PySem.W.nsIn K mainGlobals "BELOW" = some (some (.int 3 t_BELOW)))
    (g_BOXES : PySem.W.nsIn K mainGlobals "BOXES" = some (some (.int 2 t_BOXES)))
    (ib : PySem.W.kitOne K (.type "int") (.type "bool") = some false) :
    ∃ fd : FuncData, (∀ (s : Shared) (v : Value), BindsTo s fd ⟨[v], []⟩ [("script", v)]) ∧ ∀ base : Heap, K.In base → base.Ns mainGlobals mg → BMain mg base → FnOk l.prog w K mg base CX0 5 fa fd ["script"] (spLaw K T0 T1) := by
  have e := hfa.symm.trans (PySem.W.mg_of X G a14)
  cases e
  have F0 := fun_mk (st := sIsB) l0 c0 k0
  have F1 := fun_mk (st := sIsD) l1 c1 k1
  have F2 := fun_mk (st := sPairs) l2 c2 k2
  have F3 := fun_mk (st := sBeside) l3 c3 k3
  have F4 := fun_mk (st := sBeneath) l4 c4 k4
  have F5 := fun_mk (st := sStir) l5 c5 k5
  have F6 := fun_mk (st := sCell) l6 c6 k6
  have F7 := fun_mk (st := sGrown) l7 c7 k7
  have F8 := fun_mk (st := sWheel) l8 c8 k8
  have F9 := fun_mk (st := sGrid) l9 c9 k9
  have F10 := fun_mk (st := sLines) l10 c10 k10
  have F11 := fun_mk (st := sLaid) l11 c11 k11
  have F12 := fun_mk (st := sOwn) l12 c12 k12
  have F13 := fun_mk (st := sTold) l13 c13 k13
  have F14 := fun_mk (st := sLaw) l14 c14 k14
  refine ⟨PySem.W.fnOf "law" "law" (defArgs sLaw) (defBody sLaw) (defScope sLaw) .none kV14 dc14 pm14 an14 (.ref cc1) ct14, fun s v => .of_eq rfl, fun base B _ M => ?_⟩
  have Y0 : Callee l.prog w K mg base CX0 1 "is_beside" f0 _ ["one", "other"] (spMet bsd) := ⟨ok_isB F0 ⟨_, PySem.W.mg_of X G g_LEFT⟩ ⟨_, PySem.W.mg_of X G g_TOP⟩ ⟨_, PySem.W.mg_of X G g_RIGHT⟩ ⟨_, PySem.W.mg_of X G g_BELOW⟩, PySem.W.mg_of X G a0, k0, F0.binds fun _ _ _ _ _ _ us hl => match us, hl with | [_, _], _ => rfl⟩
  have Y1 : Callee l.prog w K mg base CX0 1 "is_beneath" f1 _ ["one", "other"] (spMet bnt) := ⟨ok_isD F1 ⟨_, PySem.W.mg_of X G g_LEFT⟩ ⟨_, PySem.W.mg_of X G g_TOP⟩ ⟨_, PySem.W.mg_of X G g_RIGHT⟩ ⟨_, PySem.W.mg_of X G g_BELOW⟩, PySem.W.mg_of X G a1, k1, F1.binds fun _ _ _ _ _ _ us hl => match us, hl with | [_, _], _ => rfl⟩
  have Y2 : Callee l.prog w K mg base CX0 2 "pairs" f2 _ ["boxes", "are_met"] (spOr (spPairs f0 bsd) (spPairs f1 bnt)) := ⟨FnOk.or (ok_pairs F2 (PySem.W.mg_none_of X G z_enumerate) Y0) (ok_pairs F2 (PySem.W.mg_none_of X G z_enumerate) Y1), PySem.W.mg_of X G a2, k2, F2.binds fun _ _ _ _ _ _ us hl => match us, hl with | [_, _], _ => rfl⟩
  have Y3 : Callee l.prog w K mg base CX0 3 "beside" f3 _ ["page"] (spBes bsd) := ⟨ok_beside F3 ⟨_, PySem.W.mg_of X G g_BOXES⟩ Y0 (Callee.l Y2), PySem.W.mg_of X G a3, k3, F3.binds fun _ _ _ _ _ _ us hl => match us, hl with | [_], _ => rfl⟩
  have Y4 : Callee l.prog w K mg base CX0 3 "beneath" f4 _ ["page"] (spBes bnt) := ⟨ok_beneath F4 ⟨_, PySem.W.mg_of X G g_BOXES⟩ Y1 (Callee.r Y2), PySem.W.mg_of X G a4, k4, F4.binds fun _ _ _ _ _ _ us hl => match us, hl with | [_], _ => rfl⟩
  have Y5 : Callee l.prog w K mg base CX0 1 "_law_stir" f5 _ ["cell", "k"] spStir := ⟨ok_stir F5, PySem.W.mg_of X G a5, k5, F5.binds fun _ _ _ _ _ _ us hl => match us, hl with | [_, _], _ => rfl⟩
  have Y6 : Callee l.prog w K mg base CX0 2 "_law_cell" f6 _ ["script", "k"] (spCell K) := ⟨ok_cell F6 (PySem.W.mg_none_of X G z_len) Y5, PySem.W.mg_of X G a6, k6, F6.binds fun _ _ _ _ _ _ us hl => match us, hl with | [_, _], _ => rfl⟩
  have Y7 : Callee l.prog w K mg base CX0 1 "_law_grown" f7 _ ["boxes", "at", "way", "many"] spGrown := ⟨ok_grown F7 (PySem.W.mg_none_of X G z_len) (PySem.W.mg_none_of X G z_range) (PySem.W.mg_none_of X G z_min) (PySem.W.mg_none_of X G z_max), PySem.W.mg_of X G a7, k7, F7.binds fun _ _ _ _ _ _ us hl => match us, hl with | [_, _, _, _], _ => rfl⟩
  have Y8 : Callee l.prog w K mg base CX0 1 "_law_wheel" f8 _ ["box", "rest"] spWheel := ⟨ok_wheel F8, PySem.W.mg_of X G a8, k8, F8.binds fun _ _ _ _ _ _ us hl => match us, hl with | [_, _], _ => rfl⟩
  have Y9 : Callee l.prog w K mg base CX0 2 "_law_grid" f9 _ ["cells", "many"] (spGrid K) := ⟨ok_grid F9 (PySem.W.mg_none_of X G z_len) Y8 Y7, PySem.W.mg_of X G a9, k9, F9.binds fun _ _ _ _ _ _ us hl => match us, hl with | [_, _], _ => rfl⟩
  have Y10 : Callee l.prog w K mg base CX0 3 "_law_lines" f10 _ ["script", "first", "many", "most"] (spLines K) := ⟨ok_lines F10 (PySem.W.mg_none_of X G z_range) Y6, PySem.W.mg_of X G a10, k10, F10.binds fun _ _ _ _ _ _ us hl => match us, hl with | [_, _, _, _], _ => rfl⟩
  have Y11 : Callee l.prog w K mg base CX0 4 "_law_laid" f11 _ ["boxes", "xs", "ys"] (spLaid T0) := ⟨ok_laid F11 rfl (code_base Cd0 X B lc0) M (PySem.W.mg_none_of X G z_sorted), PySem.W.mg_of X G a11, k11, F11.binds fun _ _ _ _ _ _ us hl => match us, hl with | [_, _, _], _ => rfl⟩
  have Y12 : Callee l.prog w K mg base CX0 1 "_law_owners" f12 _ ["boxes", "many"] spOwn := ⟨ok_own F12 (PySem.W.mg_none_of X G z_range) (PySem.W.mg_none_of X G z_len), PySem.W.mg_of X G a12, k12, F12.binds fun _ _ _ _ _ _ us hl => match us, hl with | [_, _], _ => rfl⟩
  have Y13 : Callee l.prog w K mg base CX0 1 "_law_told" f13 _ ["found", "due"] spTold := ⟨ok_told F13 (PySem.W.mg_none_of X G z_isinstance) (PySem.W.mg_none_of X G z_int) (PySem.W.mg_none_of X G z_bool) (PySem.W.mg_none_of X G z_tuple) (PySem.W.mg_none_of X G z_list) ib, PySem.W.mg_of X G a13, k13, F13.binds fun _ _ _ _ _ _ us hl => match us, hl with | [_, _], _ => rfl⟩
  exact ok_law F14 rfl (code_base Cd1 X B lc1) M (PySem.W.mg_none_of X G z_range) (PySem.W.mg_none_of X G z_sorted) (PySem.W.mg_none_of X G z_tuple) hTT Y6 Y10 Y11 Y9 Y12 Y3 Y4 Y13
end KO
theorem PySem.W.Fast.te8566153422307446317 : True := True.intro
theorem PySem.W.Fast.tw5200196320458527223 : True := True.intro
theorem PySem.W.Fast.tw9408999280968770472 : True := True.intro
theorem PySem.W.Fast.tw8417585967920669676 : True := True.intro
theorem PySem.W.Fast.tw13917791074572148263 : True := True.intro
theorem PySem.W.Fast.tw2070691718923647408 : True := True.intro
theorem PySem.W.Fast.tw11644227665321486748 : True := True.intro
theorem PySem.W.Fast.tw7717437987478789989 : True := True.intro
theorem PySem.W.Fast.tw14903216696782321627 : True := True.intro
theorem PySem.W.Fast.tw4161152669566841791 : True := True.intro
theorem PySem.W.Fast.tw8318805982345559993 : True := True.intro
theorem PySem.W.Fast.tw947855931336863769 : True := True.intro
theorem PySem.W.Fast.tw1536285943367923141 : True := True.intro
theorem PySem.W.Fast.tw10696924260358533610 : True := True.intro
theorem PySem.W.Fast.tw12528675100392529488 : True := True.intro
theorem PySem.W.Fast.tw3166768280518570379 : True := True.intro
theorem PySem.W.Fast.tw3956465371484101834 : True := True.intro
theorem PySem.W.Fast.tw786573022976902991 : True := True.intro
theorem PySem.W.Fast.tw10172983623136113381 : True := True.intro
theorem PySem.W.Fast.tw18376193948401424049 : True := True.intro
theorem PySem.W.Fast.tw11048199045705613547 : True := True.intro
theorem PySem.W.Fast.tw8153402539205539434 : True := True.intro
theorem PySem.W.Fast.tw10198804591167170416 : True := True.intro
theorem PySem.W.Fast.tw8331324952426862579 : True := True.intro
theorem PySem.W.Fast.tw16446962223772203997 : True := True.intro
theorem PySem.W.Fast.tw7185318946094290593 : True := True.intro
theorem PySem.W.Fast.tw9015232354323167920 : True := True.intro
theorem PySem.W.Fast.tw136234638291134000 : True := True.intro
theorem PySem.W.Fast.tw17081751185448347560 : True := True.intro
theorem PySem.W.Fast.tw16730480670164096277 : True := True.intro
theorem PySem.W.Fast.tw10425975925187409504 : True := True.intro
theorem PySem.W.Fast.tw9295732760093577606 : True := True.intro
theorem PySem.W.Fast.tw8008959353021865440 : True := True.intro
open PySem PySem.W PyProof.Rows
set_option maxRecDepth 100000 in
set_option maxHeartbeats 0 in
theorem PySem.Challenge.cw_pagepart_k13_beside_and_beneath_holds : PySem.Challenge.rw_pagepart_k13_beside_and_beneath.Holds := by
  w_on; o_law; k_head; (case hw => w_witness2)
  k_fill
  refine L2.walk_ofTT (l := PySem.Challenge.rw_pagepart_k13_beside_and_beneath) (n := 63) (k := 5) (x := "script") (x1 := "_law_laid") (x2 := "law") (CX := fun _ => L2.CX0) (T := ?T0) (c := ?c) (T' := ?T1) (c' := ?c') (sp := fun w => KO.spLaw _ ?T0 ?T1) rfl (by decide) rfl ⟨rfl, by decide, by decide⟩ (fun w h Y => PySem.W.km_in_of Y) ?hrec ?htab ?hKT ?hrec2 ?htab2 ?hKT2 ?F (fun w H a ns hl hT hT' hS => ⟨a, ns, rfl, hS, hT, hT', fun _ => rfl⟩) fun _ _ _ _ _ z => z
  case htab =>
    intro w
    refine' L2.tab_mk ?x1 ?x2 ?x3 ?x4 ?x5
    (case x1 => k_is); (case x2 => k_is); (case x3 => rfl); (case x4 => k_is); (case x5 => rfl)
  case htab2 =>
    intro w
    refine' L2.tab_mk ?x1 ?x2 ?x3 ?x4 ?x5
    (case x1 => k_is); (case x2 => k_is); (case x3 => rfl); (case x4 => k_is); (case x5 => rfl)
  case hrec => decide +kernel
  case hrec2 => decide +kernel
  case hKT => intro w; kernel_rfl
  case hKT2 => intro w; kernel_rfl
  case F =>
    intro w mg fa h KX G hmg Cd0 Cd1
    refine' _root_.KO.all_mk KX G hmg Cd0 Cd1 (by decide) ?a0 ?l0 ?c0 ?k0 ?a1 ?l1 ?c1 ?k1 ?a2 ?l2 ?c2 ?k2 ?a3 ?l3 ?c3 ?k3 ?a4 ?l4 ?c4 ?k4 ?a5 ?l5 ?c5 ?k5 ?a6 ?l6 ?c6 ?k6 ?a7 ?l7 ?c7 ?k7 ?a8 ?l8 ?c8 ?k8 ?a9 ?l9 ?c9 ?k9 ?a10 ?l10 ?c10 ?k10 ?a11 ?l11 ?c11 ?k11 ?a12 ?l12 ?c12 ?k12 ?a13 ?l13 ?c13 ?k13 ?a14 ?l14 ?c14 ?k14 ?lc0 ?lc1 ?z_len ?z_range ?z_min ?z_max ?z_sorted ?z_enumerate ?z_tuple ?z_isinstance ?z_int ?z_bool ?z_list ?g_LEFT ?g_TOP ?g_RIGHT ?g_BELOW ?g_BOXES ?ib
    (case a0 => k_is)
    (case l0 => k_is)
    (case c0 => k_is)
    (case k0 => k_is)
    (case a1 => k_is)
    (case l1 => k_is)
    (case c1 => k_is)
    (case k1 => k_is)
    (case a2 => k_is)
    (case l2 => k_is)
    (case c2 => k_is)
    (case k2 => k_is)
    (case a3 => k_is)
    (case l3 => k_is)
    (case c3 => k_is)
    (case k3 => k_is)
    (case a4 => k_is)
    (case l4 => k_is)
    (case c4 => k_is)
    (case k4 => k_is)
    (case a5 => k_is)
    (case l5 => k_is)
    (case c5 => k_is)
    (case k5 => k_is)
    (case a6 => k_is)
    (case l6 => k_is)
    (case c6 => k_is)
    (case k6 => k_is)
    (case a7 => k_is)
    (case l7 => k_is)
    (case c7 => k_is)
    (case k7 => k_is)
    (case a8 => k_is)
    (case l8 => k_is)
    (case c8 => k_is)
    (case k8 => k_is)
    (case a9 => k_is)
    (case l9 => k_is)
    (case c9 => k_is)
    (case k9 => k_is)
    (case a10 => k_is)
    (case l10 => k_is)
    (case c10 => k_is)
    (case k10 => k_is)
    (case a11 => k_is)
    (case l11 => k_is)
    (case c11 => k_is)
    (case k11 => k_is)
    (case a12 => k_is)
    (case l12 => k_is)
    (case c12 => k_is)
    (case k12 => k_is)
    (case a13 => k_is)
    (case l13 => k_is)
    (case c13 => k_is)
    (case k13 => k_is)
    (case a14 => k_is)
    (case l14 => k_is)
    (case c14 => k_is)
    (case k14 => k_is)
    (case lc0 => k_is)
    (case lc1 => k_is)
    (case z_len => k_is)
    (case z_range => k_is)
    (case z_min => k_is)
    (case z_max => k_is)
    (case z_sorted => k_is)
    (case z_enumerate => k_is)
    (case z_tuple => k_is)
    (case z_isinstance => k_is)
    (case z_int => k_is)
    (case z_bool => k_is)
    (case z_list => k_is)
    (case g_LEFT => k_is)
    (case g_TOP => k_is)
    (case g_RIGHT => k_is)
    (case g_BELOW => k_is)
    (case g_BOXES => k_is)
    (case ib => kernel_rfl)
#print axioms PySem.Challenge.cw_pagepart_k13_beside_and_beneath_holds
