import PyProof.Rows.All
import Wide.All
import OpenK.AllK
import Wide.FinOn
import Lean
import PyProof.EqAt
import PyProof.EqKinds
import PyProof.TupleCall
import PyProof.Draws
import PyProof.EnumMake
import PyProof.TupleIter
import PyProof.WalksMore
import PyProof.MinMaxWalk
import PyProof.SeqI3
import KE.KSortTup
import KE.KLam
import KE.KIsAll
import PyProof.Rows.CallKwBuiltin
import PyProof.SumWalk
import PyProof.CompFree
import PyProof.CompUse
import PyProof.ConsumeWalk
import PyProof.NeKinds
import PyProof.Rows.StrJoin2
import PyProof.Rows.SortShell
import PyProof.StrBlock2
import PyProof.StrWalks
import PyProof.FString5
import PyProof.ZipIter
import PyProof.Rows.StrSplitAre
import PyProof.StrLawsTight
import PyProof.SumWalkG
import KE.KRevIter
import PyProof.AutoSeq1
import PyProof.Rows.SortWalk
import PyProof.Rows.SeqMore
import PyProof.ListNew
import PyProof.CollectWalk
import KE.KUnpack
import PyProof.Conv_int_bool
import PySem.Challenge.RW_pagepart_k69_printing_refused
set_option Elab.async false
set_option linter.all false
set_option maxRecDepth 100000
namespace L2
open PySem PySem.Spec PyProof.Rows
abbrev Key := Sum Int Str
def keyIs : Key → Value → Bool
  | .inl k, v => Value.isInt k v
  | .inr x, v => Value.isStrOf x v
def keyH (w : World) : Key → Int
  | .inl k => hashInt k
  | .inr x => hashStr w x
theorem keyIs_shape : ∀ {k : Key} {v : Value}, keyIs k v = true → (∃ i t, k = Sum.inl i ∧ v = Value.int i t) ∨ (∃ x t, k = Sum.inr x ∧ v = Value.str x t)
  | .inl i, v, h => by
    obtain ⟨t, e⟩ := Value.isInt_shape (k := i) (v := v) h
    exact .inl ⟨i, t, rfl, e⟩
  | .inr x, v, h => by
    obtain ⟨t, e⟩ := Value.isStrOf_shape (x := x) (v := v) h
    exact .inr ⟨x, t, rfl, e⟩
theorem key_ll (a b : Int) : decide ((Sum.inl a : Key) = Sum.inl b) = (a == b) := by
  by_cases e : a = b
  · subst e; simp
  · have h : ¬ (Sum.inl a : Key) = Sum.inl b := fun q => e (Sum.inl.inj q)
    rw [decide_eq_false h]
    exact (beq_eq_false_iff_ne.mpr e).symm
theorem key_rr (a b : Str) : decide ((Sum.inr a : Key) = Sum.inr b) = decide (a = b) := by
  by_cases e : a = b
  · subst e; simp
  · have h : ¬ (Sum.inr a : Key) = Sum.inr b := fun q => e (Sum.inr.inj q)
    rw [decide_eq_false h, decide_eq_false e]
theorem key_lr (a : Int) (b : Str) : decide ((Sum.inl a : Key) = Sum.inr b) = false := decide_eq_false (fun q => nomatch q)
theorem key_rl (a : Str) (b : Int) : decide ((Sum.inr a : Key) = Sum.inl b) = false := decide_eq_false (fun q => nomatch q)
def mixKind (prog : Program) (w : World) : PySem.KeyKind prog w Key where
  is := keyIs
  hash := keyH w
  inj := fun v a b ha hb => by
    rcases keyIs_shape ha with ⟨i, t, rfl, rfl⟩ | ⟨x, t, rfl, rfl⟩
    · rcases keyIs_shape hb with ⟨j, u, rfl, e⟩ | ⟨y, u, rfl, e⟩
      · injection e with e1 _; rw [e1]
      · exact nomatch e
    · rcases keyIs_shape hb with ⟨j, u, rfl, e⟩ | ⟨y, u, rfl, e⟩
      · exact nomatch e
      · injection e with e1 _; rw [e1]
  byValue := fun k v h => by
    rcases keyIs_shape h with ⟨i, t, rfl, rfl⟩ | ⟨x, t, rfl, rfl⟩ <;> rfl
  pyHash := fun hv h => by
    rcases keyIs_shape hv with ⟨i, t, rfl, rfl⟩ | ⟨x, t, rfl, rfl⟩
    · exact wpAny_pyHash_int h
    · exact wpAny_pyHash_str h
  eqBool := fun hu hv h => by
    rcases keyIs_shape hu with ⟨i, t, rfl, rfl⟩ | ⟨x, t, rfl, rfl⟩
    · rcases keyIs_shape hv with ⟨j, u, rfl, rfl⟩ | ⟨y, u, rfl, rfl⟩
      · rw [key_ll] at h; exact wpAny_eqBool_int h
      · rw [key_lr] at h; exact SeqAt.EqAt.int_str i t y u _ _ _ _ h
    · rcases keyIs_shape hv with ⟨j, u, rfl, rfl⟩ | ⟨y, u, rfl, rfl⟩
      · rw [key_rl] at h; exact SeqAt.EqAt.str_int x t j u _ _ _ _ h
      · rw [key_rr] at h; exact wpAny_eqBool_str h
  «strs» := fun k x t v h => by
    rcases keyIs_shape h with ⟨i, u, rfl, e⟩ | ⟨y, u, rfl, e⟩
    · exact nomatch e
    · injection e with e1 _
      subst e1
      cases v <;> rfl
end L2
namespace L2
open PySem PySem.Spec PyProof.Rows
inductive V where
  | non | bl (b : Bool) | int (i : Int) | str (x : Str) | byt (b : Array UInt8) | flt (b : UInt64) | ref (a : Addr) | ty (n : String)
  deriving DecidableEq
def RelV : V → Value → Prop
  | .non, u => u = Value.none
  | .bl b, u => u = Value.bool b
  | .int i, u => ∃ t, u = Value.int i t
  | .str x, u => ∃ t, u = Value.str x t
  | .byt b, u => ∃ t, u = Value.bytes b t
  | .flt b, u => ∃ t, u = Value.float b t
  | .ref a, u => u = Value.ref a
  | .ty n, u => u = Value.type n
abbrev Vals : List V → List Value → Prop := Paired RelV
theorem Vals.length {xs : List V} {us : List Value} (r : Vals xs us) : xs.length = us.length := Paired.length r
theorem Vals.get : ∀ {xs : List V} {us : List Value} {i : Nat} {x : V}, Vals xs us → xs[i]? = some x → ∃ u, us[i]? = some u ∧ RelV x u
  | _, _, _, _, .nil, e => by simp at e
  | _, _, 0, _, .cons r _, e => by simp at e; subst e; exact ⟨_, rfl, r⟩
  | _, _, i + 1, x, .cons _ t, e => by
    obtain ⟨u, h1, h2⟩ := Vals.get (i := i) (x := x) t (by simpa using e)
    exact ⟨u, by simpa using h1, h2⟩
theorem Vals.set {x : V} {u : Value} (r : RelV x u) : ∀ {xs : List V} {us : List Value} (i : Nat), Vals xs us → Vals (xs.set i x) (us.set i u)
  | _, _, _, .nil => .nil
  | _, _, 0, .cons _ t => .cons r t
  | _, _, i + 1, .cons q t => .cons q (Vals.set r i t)
theorem Vals.append : ∀ {xs ys : List V} {us ws : List Value}, Vals xs us → Vals ys ws → Vals (xs ++ ys) (us ++ ws)
  | _, _, _, _, .nil, s => s
  | _, _, _, _, .cons r t, s => .cons r (Vals.append t s)
theorem Vals.take : ∀ {xs : List V} {us : List Value} (n : Nat), Vals xs us → Vals (xs.take n) (us.take n)
  | _, _, 0, _ => .nil
  | _, _, _ + 1, .nil => .nil
  | _, _, n + 1, .cons r t => .cons r (Vals.take n t)
theorem Vals.drop : ∀ {xs : List V} {us : List Value} (n : Nat), Vals xs us → Vals (xs.drop n) (us.drop n)
  | _, _, 0, r => r
  | _, _, _ + 1, .nil => .nil
  | _, _, n + 1, .cons _ t => Vals.drop n t
def RelO : Option V → Option Value → Prop
  | some v, some u => RelV v u
  | none, none => True
  | _, _ => False
def KV {κ : Type} : List (κ × V) → List (κ × Value) → Prop := Paired fun (p : κ × V) (q : κ × Value) => p.1 = q.1 ∧ RelV p.2 q.2
def kV : Key → V
  | .inl i => .int i
  | .inr x => .str x
inductive HO where
  /-- a list -/
  | lst (xs : List V)
  /-- a tuple (never changes) -/
  | tup (xs : List V)
  /-- a dict whose keys are ints and texts; one whose keys are tuples of ints and texts (the empty one is both) -/
  | dK (kvs : List (Key × V)) | dT (kvs : List (List Key × V))
  /-- a set of ints: its members, its size -/
  | set (S : Int → Bool) (n : Nat)
  /-- an instance of the class at C, its dict at dx, its attributes -/
  | ins (C dx : Addr) (fs : List (Str × V))
  /-- the dict of the instance at x -/
  | own (x : Addr)
  /-- the dict of an exception -/
  | xd (fs : List (Str × V))
  /-- a bound method, f of x -/
  | met (f x : Addr)
  /-- a range object lo, lo + 1, .. below hi -/
  | rng (lo hi : Int)
  /-- a thing that is known to the object (the script; a dict while a loop walks it): read, never written while it is so -/
  | frz (o : Obj) (u : HO)
  /-- a code object's table -/
  | tbl (ps : Array Value)
  /-- any other thing, by what is true of its one object (a def of one's own: SetO a S n := HO.ext fun h => ..) -/
  | ext (φ : Heap → Prop)
abbrev Hp := Addr → Option HO
def upd (H : Hp) (a : Addr) (o : HO) : Hp := fun b => if b = a then some o else H b
theorem upd_same {H : Hp} {a : Addr} {o : HO} : upd H a o a = some o := by unfold upd; rw [if_pos rfl]
theorem upd_ne {H : Hp} {a b : Addr} {o : HO} (h : b ≠ a) : upd H a o b = H b := by unfold upd; rw [if_neg h]
theorem ne_of {H : Hp} {a b : Addr} {o u : HO} (h : H a = some o) (h' : H b = some u) (d : o ≠ u) : a ≠ b := by
  intro e; subst e; rw [h] at h'; exact d (Option.some.inj h')
theorem ne_of_none {H : Hp} {a b : Addr} {o : HO} (h : H a = some o) (h' : H b = none) : a ≠ b := by
  intro e; subst e; rw [h] at h'; cases h'
section
variable (P : Program) (w : World)
def ObjOk (H : Hp) (h : Heap) (a : Addr) : HO → Prop
  | .lst xs => xs.length ≤ sizeLine ∧ ∃ (its : List Value) (n : Nat), Vals xs its ∧ h.get? a = some { cls := .type "list", data := .seq its.toArray n }
  | .tup xs => xs.length ≤ sizeLine ∧ ∃ its : List Value, Vals xs its ∧ IsTup h a its.toArray
  | .dK kvs => kvs.length ≤ sizeLine ∧ (a == sysModules) = false ∧ ∃ vs, KV kvs vs ∧ h.DictOf (mixKind P w) a vs
  | .dT kvs => kvs.length ≤ sizeLine ∧ (a == sysModules) = false ∧ ∃ xs : List (List Key × Addr × Value),
      Paired (fun (p : List Key × V) (q : List Key × Addr × Value) => p.1 = q.1 ∧ H q.2.1 = some (.tup (p.1.map kV)) ∧ RelV p.2 q.2.2) kvs xs ∧
      ∃ o es ep, h.get? a = some o ∧ o.ExactDict ∧ o.data = .dict es ep ∧ es.toList = xs.map (entryOfKey (tupleKind (mixKind P w))) ∧ (xs.map (·.1)).Nodup
  | .set S n => h.SetOf (intKind P w) a S n
  | .ins C dx fs => H dx = some (.own a) ∧ fs.length ≤ 1000 ∧ dx ≠ a ∧ h.get? a = some (PySem.W.instObj C dx) ∧
      ∃ mA, h.Ns1 dx mA ∧ (∀ f, RelO (fs.lookup f) (mA f)) ∧ PySem.Within mA (fs.map (·.1))
  | .own _ => ∃ o, h.get? a = some o
  | .xd fs => ∃ mA, h.Ns1 a mA ∧ ∀ f, RelO (fs.lookup f) (mA f)
  | .rng lo hi => ∃ t u v, h.get? a = some { cls := .type "range", data := .fields #[.int lo t, .int hi u, .int 1 v] }
  | .frz o u => h.get? a = some o ∧ ObjOk H h a u
  | .tbl ps => h.get? a = some { cls := .none, data := .fields ps }
  | .met f x => h.get? a = some (PySem.W.methodObj (.ref f) (.ref x))
  | .ext φ => φ h ∧ (∃ o, h.get? a = some o) ∧ ∀ h1 h2 : Heap, φ h1 → (∀ o, h1.get? a = some o → h2.get? a = some o) → φ h2
def HOk (H : Hp) (h : Heap) : Prop := ∀ a o, H a = some o → ObjOk P w H h a o
end
section
variable {P : Program} {w : World} {H H' : Hp} {h h' : Heap} {a : Addr} {o : HO}
theorem ObjOk.lt (x : ObjOk P w H h a o) : a < h.objs.size := by
  cases o with
  | lst xs => obtain ⟨_, _, _, _, e⟩ := x; exact Heap.lt_size e
  | tup xs => obtain ⟨_, _, _, p⟩ := x; exact p.lt
  | dK kvs => obtain ⟨_, _, _, _, o, _, _, e, _⟩ := x; exact Heap.lt_size e
  | dT kvs => obtain ⟨_, _, _, _, o, _, _, e, _⟩ := x; exact Heap.lt_size e
  | set S n => obtain ⟨o, _, _, _, e, _⟩ := x; exact Heap.lt_size e
  | ins C dx fs => obtain ⟨_, _, _, e, _⟩ := x; exact Heap.lt_size e
  | own y => obtain ⟨_, e⟩ := x; exact Heap.lt_size e
  | xd fs => obtain ⟨_, ⟨_, _, _, e, _⟩, _⟩ := x; exact Heap.lt_size e
  | rng lo hi => obtain ⟨_, _, _, e⟩ := x; exact Heap.lt_size e
  | frz ob u => obtain ⟨e, _⟩ := x; exact Heap.lt_size e
  | tbl ps => exact Heap.lt_size (show h.get? a = some _ from x)
  | met f y => exact Heap.lt_size (show h.get? a = some _ from x)
  | ext φ => obtain ⟨_, ⟨_, e⟩, _⟩ := x; exact Heap.lt_size e
theorem Paired.mapP {α β : Type} {F G : α → β → Prop} : ∀ {l₁ : List α} {l₂ : List β}, Paired F l₁ l₂ → (∀ a b, F a b → G a b) → Paired G l₁ l₂
  | _, _, .nil, _ => .nil
  | _, _, .cons r t, f => .cons (f _ _ r) (Paired.mapP t f)
theorem Paired.imp' {α β : Type} {F G : α → β → Prop} (f : ∀ a b, F a b → G a b) {l₁ : List α} {l₂ : List β} (r : Paired F l₁ l₂) : Paired G l₁ l₂ := Paired.mapP r f
theorem ObjOk.stay (x : ObjOk P w H h a o) (k : ∀ b u, (b = a ∨ H b = some (.own a)) → h.get? b = some u → h'.get? b = some u)
    (ho : ∀ b, H b = some (.own a) → H' b = some (.own a)) (ht : ∀ b xs, H b = some (.tup xs) → H' b = some (.tup xs)) : ObjOk P w H' h' a o := by
  induction o with
  | lst xs => obtain ⟨z, its, n, r, e⟩ := x; exact ⟨z, its, n, r, k _ _ (.inl rfl) e⟩
  | tup xs => obtain ⟨z, its, r, ob, e, c⟩ := x; exact ⟨z, its, r, ob, k _ _ (.inl rfl) e, c⟩
  | dK kvs => obtain ⟨z, y, vs, r, ob, es, ep, e, c⟩ := x; exact ⟨z, y, vs, r, ob, es, ep, k _ _ (.inl rfl) e, c⟩
  | dT kvs =>
    obtain ⟨z, y, xs, r, ob, es, ep, e, c⟩ := x
    exact ⟨z, y, xs, Paired.mapP r fun p q z => ⟨z.1, ht _ _ z.2.1, z.2.2⟩, ob, es, ep, k _ _ (.inl rfl) e, c⟩
  | set S n => obtain ⟨ob, es, ep, t, e, c⟩ := x; exact ⟨ob, es, ep, t, k _ _ (.inl rfl) e, c⟩
  | ins C dx fs =>
    obtain ⟨d, z, ne, e, mA, ⟨od, es, ep, e2, c⟩, r⟩ := x
    exact ⟨ho _ d, z, ne, k _ _ (.inl rfl) e, mA, ⟨od, es, ep, k _ _ (.inr d) e2, c⟩, r⟩
  | own y => obtain ⟨ob, e⟩ := x; exact ⟨ob, k _ _ (.inl rfl) e⟩
  | xd fs => obtain ⟨mA, ⟨od, es, ep, e, c⟩, r⟩ := x; exact ⟨mA, ⟨od, es, ep, k _ _ (.inl rfl) e, c⟩, r⟩
  | rng lo hi => obtain ⟨t, u, v, e⟩ := x; exact ⟨t, u, v, k _ _ (.inl rfl) e⟩
  | frz ob u ih => obtain ⟨e, q⟩ := x; exact ⟨k _ _ (.inl rfl) e, ih q⟩
  | tbl ps =>
    have e : h.get? a = some { cls := .none, data := .fields ps } := x
    show h'.get? a = some { cls := .none, data := .fields ps }
    exact k a _ (.inl rfl) e
  | met f y =>
    have e : h.get? a = some (PySem.W.methodObj (.ref f) (.ref y)) := x
    show h'.get? a = some (PySem.W.methodObj (.ref f) (.ref y))
    exact k a _ (.inl rfl) e
  | ext φ => obtain ⟨p, ⟨o, e⟩, st⟩ := x; exact ⟨st _ _ p fun o q => k _ _ (.inl rfl) q, ⟨o, k _ _ (.inl rfl) e⟩, st⟩
theorem HOk.lt (x : HOk P w H h) (e : H a = some o) : a < h.objs.size := (x a o e).lt
theorem HOk.fresh (x : HOk P w H h) (e : h.objs.size ≤ a) : H a = none := by
  cases q : H a with
  | none => rfl
  | some u => exact absurd (Nat.lt_of_lt_of_le (x.lt q) e) (Nat.lt_irrefl _)
theorem HOk.kept (x : HOk P w H h) (k : ∀ b u, h.get? b = some u → h'.get? b = some u) : HOk P w H h' := fun a o e =>
  (x a o e).stay (fun b u _ q => k b u q) (fun _ q => q) fun _ _ q => q
theorem HOk.laid (x : HOk P w H h) (k : ∀ b u, h.get? b = some u → h'.get? b = some u) (hp : h.objs.size ≤ a) (new : ObjOk P w (upd H a o) h' a o) : HOk P w (upd H a o) h' := fun b u e => by
  have hn := x.fresh hp
  by_cases hb : b = a
  · subst hb; rw [upd_same] at e; cases e; exact new
  · rw [upd_ne hb] at e
    exact (x b u e).stay (fun c v _ q => k c v q) (fun c q => by rw [upd_ne (ne_of_none q hn)]; exact q) fun c xs q => by rw [upd_ne (ne_of_none q hn)]; exact q
end
def Rd (H : Hp) (a : Addr) (u : HO) : Prop := H a = some u ∨ ∃ o, H a = some (.frz o u)
theorem Rd.ok {P : Program} {w : World} {H : Hp} {h : Heap} {a : Addr} {u : HO} (r : Rd H a u) (x : HOk P w H h) : ObjOk P w H h a u := by
  rcases r with r | ⟨o, r⟩
  · exact x a u r
  · obtain ⟨_, q⟩ := x a _ r
    exact q
def Mut : Option HO → Prop
  | some (.lst _) => True
  | some (.dK _) => True
  | some (.dT _) => True
  | some (.set _ _) => True
  | some (.ins _ _ _) => True
  | some (.ext _) => True
  | _ => False
section
variable {P : Program} {w : World} {H : Hp} {h h' : Heap} {x e : Addr} {o' : HO}
theorem HOk.write (ok : HOk P w H h) (mu : Mut (H x)) (he : e = x ∨ H e = some (.own x)) (k : ∀ b u, b ≠ e → h.get? b = some u → h'.get? b = some u) (heo : ∃ u, h'.get? e = some u)
    (new : ObjOk P w (upd H x o') h' x o') : HOk P w (upd H x o') h' := fun b u q => by
  have nown : ∀ c y, H c = some (.own y) → c ≠ x := fun c y r z => by subst z; rw [r] at mu; exact mu
  have ntup : ∀ c xs, H c = some (.tup xs) → c ≠ x := fun c xs r z => by subst z; rw [r] at mu; exact mu
  by_cases hb : b = x
  · subst hb; rw [upd_same] at q; cases q; exact new
  · rw [upd_ne hb] at q
    by_cases hbe : b = e
    · have q' : H b = some (.own x) := by
        rcases he with z | z
        · exact absurd (hbe.trans z) hb
        · rw [hbe]; exact z
      rw [q] at q'; cases q'
      obtain ⟨v, hv⟩ := heo
      exact ⟨v, by rw [hbe]; exact hv⟩
    · refine (ok b u q).stay (fun c v hc r => k c v ?_ r) (fun c r => by rw [upd_ne (nown c b r)]; exact r) fun c xs r => by rw [upd_ne (ntup c xs r)]; exact r
      rcases hc with rfl | hc
      · exact hbe
      · rintro rfl
        rcases he with z | z
        · exact nown c b hc z
        · rw [hc] at z; cases z; exact hb rfl
end
structure Un (fs ex : List Addr) (H H' : Hp) (h h' : Heap) : Prop where
  keep : ∀ b o, h.get? b = some o → H b = none → b ∉ fs → b ∉ ex → h'.get? b = some o
  slot : ∀ b o, h.get? b = some o → H b = none → b ∈ fs → b ∉ ex → ∃ sl, h'.get? b = some { o with slots := sl }
  free : ∀ b o, h.get? b = some o → H b = none → b ∉ ex → H' b = none
  there : ∀ b o, h.get? b = some o → b ∉ ex → ∃ o', h'.get? b = some o'
  tups : ∀ b xs, H b = some (.tup xs) → H' b = some (.tup xs)
  frzs : ∀ b o u, H b = some (.frz o u) → H' b = some (.frz o u)
  tbls : ∀ b ps, H b = some (.tbl ps) → ∃ more, H' b = some (.tbl (ps ++ more))
section
variable {fs fs' ex ex' : List Addr} {H H1 H2 : Hp} {h h1 h2 h' : Heap} {a x e : Addr} {o : HO}
theorem Un.any (u : Un fs ex H H1 h h1) {b : Addr} {ob : Obj} (q : h.get? b = some ob) (n : H b = none) (hx : b ∉ ex) : ∃ sl, h1.get? b = some { ob with slots := sl } := by
  by_cases hb : b ∈ fs
  · exact u.slot b ob q n hb hx
  · exact ⟨ob.slots, u.keep b ob q n hb hx⟩
theorem Un.kept (k : ∀ b u, h.get? b = some u → h'.get? b = some u) : Un fs ex H H h h' :=
  ⟨fun b ob q _ _ _ => k b ob q, fun b ob q _ _ _ => ⟨ob.slots, k b ob q⟩, fun _ _ _ n _ => n, fun b ob q _ => ⟨ob, k b ob q⟩, fun _ _ q => q, fun _ _ _ q => q, fun _ ps q => ⟨#[], by rw [q]; simp⟩⟩
theorem Un.refl : Un fs ex H H h h := Un.kept fun _ _ q => q
theorem Un.laid (k : ∀ b u, h.get? b = some u → h'.get? b = some u) (hp : h.objs.size ≤ a) (hn : H a = none) : Un fs ex H (upd H a o) h h' where
  keep := fun b u q _ _ _ => k b u q
  slot := fun b u q _ _ _ => ⟨u.slots, k b u q⟩
  free := fun b u q n _ => by rw [upd_ne (Nat.ne_of_lt (Nat.lt_of_lt_of_le (Heap.lt_size q) hp))]; exact n
  there := fun b u q _ => ⟨u, k b u q⟩
  tups := fun b xs q => by rw [upd_ne (ne_of_none q hn)]; exact q
  frzs := fun b u xs q => by rw [upd_ne (ne_of_none q hn)]; exact q
  tbls := fun b ps q => ⟨#[], by rw [upd_ne (ne_of_none q hn), q]; simp⟩
theorem Un.write (mu : Mut (H x)) (he : e = x ∨ H e = some (.own x)) (k : ∀ b u, b ≠ e → h.get? b = some u → h'.get? b = some u) (heo : ∃ u, h'.get? e = some u) : Un fs ex H (upd H x o) h h' := by
  have hx : ∀ b, H b = none → b ≠ x := fun b n z => by subst z; rw [n] at mu; exact mu
  have hb : ∀ b, H b = none → b ≠ e := fun b n z => by
    subst z
    rcases he with r | r
    · exact hx b n r
    · rw [n] at r; cases r
  have hm : ∀ b u, H b = some u → ¬ Mut (some u) → b ≠ x := fun b u q nm z => by subst z; rw [q] at mu; exact nm mu
  refine ⟨fun b u q n _ _ => k b u (hb b n) q, fun b u q n _ _ => ⟨u.slots, k b u (hb b n) q⟩, fun b u q n _ => by rw [upd_ne (hx b n)]; exact n, fun b u q _ => ?_,
    fun b xs q => by rw [upd_ne (hm b _ q fun z => z)]; exact q, fun b u xs q => by rw [upd_ne (hm b _ q fun z => z)]; exact q, fun b ps q => ⟨#[], by rw [upd_ne (hm b _ q fun z => z), q]; simp⟩⟩
  by_cases hbe : b = e
  · subst hbe; exact heo
  · exact ⟨u, k b u hbe q⟩
end
def trk (h : Heap) (H : Hp) : List Addr := (List.range h.objs.size).filter fun a => (H a).isSome
def hidT (h : Heap) (H : Hp) : Heap := PySem.W.hideAll h (trk h H)
theorem hidT_size (h : Heap) (H : Hp) : (hidT h H).objs.size = h.objs.size := PySem.W.hideAll_size _ _
theorem hidT_get {h : Heap} {H : Hp} {b : Addr} {o : Obj} (e : h.get? b = some o) (n : H b = none) : (hidT h H).get? b = some o :=
  PySem.W.hideAll_get _ e fun hm => by
    have q : (H b).isSome = true := (List.mem_filter.mp hm).2
    rw [n] at q; simp at q
theorem of_hidT {h : Heap} {H : Hp} {b : Addr} {o : Obj} (e : (hidT h H).get? b = some o) : h.get? b = some o ∧ H b = none := by
  have e' : h.get? b = some o := PySem.W.of_hideAll (trk h H) e
  refine ⟨e', ?_⟩
  cases q : H b with
  | none => rfl
  | some x =>
    have hm : b ∈ trk h H := List.mem_filter.mpr ⟨List.mem_range.mpr (Heap.lt_size e'), by simp [q]⟩
    have z : (hidT h H).get? b = none := PySem.W.hideAll_none (trk h H) hm
    rw [z] at e; cases e
end L2
namespace L2
open PySem PySem.Spec PyProof.Rows
structure Mod (K : PySem.W.Frag) (mg : Str → Option Value) (base : Heap) : Prop where
  kin : K.In base
  glob : base.Ns mainGlobals mg
  blt : ∃ mb, base.Ns builtinsNs mb ∧ ∀ x : Str, x ≠ "__name__" → mb x = bootBuiltins x
  nolimit : base.NoLimit
structure Cx where
  prog : Program
  w : World
  K : PySem.W.Frag
  mg : Str → Option Value
  base : Heap
  A : Around
  N : List Str
  s₀ : Shared
  H₀ : Hp
  env : Env
  outer : List Env
  stack : List Env
  ex : List Addr
  fn : Str → Bool
  calm : Bool
  pn : List (Addr × Obj)
  xe : Value → Shared → Prop
def frs (l : List Env) : List Addr := l.filterMap (·.frame)
abbrev Cx.fs (X : Cx) : List Addr := frs X.outer
def Vis (sc : Scope) (x : Str) : Prop := sc.names.lookup x = some .local ∨ sc.names.lookup x = some .cell ∨ sc.names.lookup x = some .free
def Loc (sc : Scope) (x : Str) : Prop := sc.names.lookup x = some .local ∨ sc.names.lookup x = some .cell
def Look (env : Env) (h : Heap) (m : Str → Option Value) (x : Str) (u : Value) : Prop :=
  (env.kindOf x = some .local ∧ m x = some u) ∨ ((env.kindOf x = some .cell ∨ env.kindOf x = some .free) ∧ ∃ c, env.cells.lookup x = some c ∧ h.IsCell c (some u))
structure Cx.Ok (X : Cx) : Prop where
  mod : Mod X.K X.mg X.base
  kind : X.env.scope.kind = .function
  glob : X.env.globals = mainGlobals
  blt : X.env.builtins = builtinsNs
  above : X.s₀.heap.objs.size ≤ X.env.locals
  inj : ∀ x y c, X.env.cells.lookup x = some c → X.env.cells.lookup y = some c → x = y
  has : ∀ x, (X.env.kindOf x = some .cell ∨ X.env.kindOf x = some .free) → ∃ c, X.env.cells.lookup x = some c
  cab : ∀ x c, X.fn x = true → X.env.cells.lookup x = some c → X.s₀.heap.objs.size ≤ c
  hd : X.calm = true → X.A.handled = none
  frames : X.A.frames = some X.stack
  stk : X.stack = X.outer ∨ (X.stack = X.env :: X.outer ∧ X.env.frame = some X.env.locals)
  exf : ∀ b ∈ X.ex, b ≠ X.env.locals ∧ ∀ x c, X.env.cells.lookup x = some c → c ≠ b
  bs : ∀ b o, X.base.get? b = some o → X.s₀.heap.get? b = some o ∧ X.H₀ b = none
  bsz : X.base.objs.size ≤ X.s₀.heap.objs.size
  noex : ∀ b o, X.base.get? b = some o → b ∉ X.ex
  exfs : ∀ b ∈ X.ex, b ∉ X.fs
  funs : X.s₀.heap.FunFrames X.base X.outer
  frf : ∀ b ∈ X.fs, X.H₀ b = none
structure Inv (X : Cx) (pins : List (Addr × Obj)) (σ : List (Option V)) (H : Hp) (s : Shared) : Prop where
  ok : X.Ok
  os : s.os = X.s₀.os
  bare : AllBare s.gens
  base : Un X.fs X.ex X.H₀ H X.s₀.heap s.heap
  loc : ∃ m, s.heap.Ns X.env.locals m ∧ ∀ (i : Nat) (x : Str) (v : V), X.N[i]? = some x → σ[i]? = some (some v) → Vis X.env.scope x → ∃ u, RelV v u ∧ Look X.env s.heap m x u
  cell : ∀ x c, X.env.cells.lookup x = some c → ∃ v, s.heap.IsCell c v
  free : H X.env.locals = none
  freeC : ∀ x c, X.env.cells.lookup x = some c → H c = none
  pin : ∀ p ∈ X.pn ++ pins, s.heap.get? p.1 = some p.2 ∧ H p.1 = none ∧ p.1 ≠ X.env.locals ∧ p.1 ∉ X.fs ∧ ∀ v, p.2.data ≠ .cell v
  hok : HOk X.prog X.w H s.heap
  len : σ.length = X.N.length
section
variable {X : Cx} {pins : List (Addr × Obj)} {σ : List (Option V)} {H H' : Hp} {s : Shared} {h' : Heap}
theorem Cx.Ok.nofr (ok : X.Ok) {b : Addr} {o : Obj} (e : X.base.get? b = some o) : b ∉ X.fs := fun hb => by
  have := (ok.funs.mem hb).1
  rw [e] at this; cases this
theorem Inv.bs (I : Inv X pins σ H s) : ∀ b o, X.base.get? b = some o → s.heap.get? b = some o ∧ H b = none := fun b o e =>
  ⟨I.base.keep b o (I.ok.bs b o e).1 (I.ok.bs b o e).2 (I.ok.nofr e) (I.ok.noex b o e), I.base.free b o (I.ok.bs b o e).1 (I.ok.bs b o e).2 (I.ok.noex b o e)⟩
theorem Inv.bk (I : Inv X pins σ H s) : ∀ b o, X.base.get? b = some o → s.heap.get? b = some o := fun b o e => (I.bs b o e).1
theorem Inv.mod (I : Inv X pins σ H s) : Mod X.K X.mg X.base := I.ok.mod
theorem Inv.kIn (I : Inv X pins σ H s) : X.K.In s.heap := I.ok.mod.kin.keeps I.bk
theorem Inv.lt (I : Inv X pins σ H s) : X.env.locals < s.heap.objs.size := let ⟨_, hn, _⟩ := I.loc; hn.lt
theorem Inv.sz (I : Inv X pins σ H s) : X.s₀.heap.objs.size ≤ s.heap.objs.size := Nat.le_trans I.ok.above (Nat.le_of_lt I.lt)
theorem Inv.nofs (I : Inv X pins σ H s) {a : Addr} (h : s.heap.objs.size ≤ a) : a ∉ X.fs := fun hb => by
  obtain ⟨_, o, ho, _⟩ := I.ok.funs.mem hb
  exact absurd (Nat.lt_of_lt_of_le (Heap.lt_size ho) (Nat.le_trans I.sz h)) (Nat.lt_irrefl _)
theorem Inv.cne (I : Inv X pins σ H s) : ∀ x c, X.env.cells.lookup x = some c → c ≠ X.env.locals := fun x c e z => by
  obtain ⟨v, o, ho, hd⟩ := I.cell x c e
  obtain ⟨m, ⟨o', es, ep, ho', hd', _⟩, _⟩ := I.loc
  rw [z, ho'] at ho; cases ho; rw [hd'] at hd; cases hd
theorem Inv.funs (I : Inv X pins σ H s) : s.heap.FunFrames X.base X.outer := by
  have all : ∀ (l : List Env), (∀ b ∈ frs l, b ∈ X.fs) → X.s₀.heap.FunFrames X.base l → s.heap.FunFrames X.base l := by
    intro l
    induction l with
    | nil => intro _ _; trivial
    | cons env r ih =>
      intro hs hl
      obtain ⟨hk, ⟨L, o, hf, hn, ho, hd⟩, hr⟩ := hl
      have hL : L ∈ X.fs := hs L (by unfold frs; rw [List.filterMap_cons, hf]; exact List.mem_cons_self)
      obtain ⟨sl, e⟩ := I.base.slot L o ho (I.ok.frf L hL) hL fun z => I.ok.exfs L z hL
      exact ⟨hk, ⟨L, _, hf, hn, e, hd⟩, ih (fun b hb => hs b (by unfold frs; rw [List.filterMap_cons, hf]; exact List.mem_cons_of_mem _ hb)) hr⟩
  exact all X.outer (fun _ hb => hb) I.ok.funs
theorem Inv.stack (I : Inv X pins σ H s) : s.heap.FunFrames X.base X.stack := by
  rcases I.ok.stk with e | ⟨e, hf⟩
  · rw [e]; exact I.funs
  · rw [e]
    obtain ⟨m, hn, _⟩ := I.loc
    refine .cons (by rw [I.ok.kind]; decide) hf hn ?_ I.funs
    exact Heap.get?_none_of_le (Nat.le_trans I.ok.bsz I.ok.above)
theorem Inv.stkSub (I : Inv X pins σ H s) : ∀ b ∈ frs X.stack, b ∈ X.env.locals :: X.fs := fun b hb => by
  rcases I.ok.stk with e | ⟨e, hf⟩
  · rw [e] at hb; exact List.mem_cons_of_mem _ hb
  · rw [e] at hb
    unfold frs at hb
    rw [List.filterMap_cons, hf] at hb
    exact hb
theorem Inv.stkFree (I : Inv X pins σ H s) : ∀ b ∈ frs X.stack, H b = none := fun b hb => by
  rcases List.mem_cons.mp (I.stkSub b hb) with e | hb
  · rw [e]; exact I.free
  · obtain ⟨_, o, ho, _⟩ := I.ok.funs.mem hb
    exact I.base.free b o ho (I.ok.frf b hb) fun z => I.ok.exfs b z hb
theorem Inv.step {g' : Array GenState} {t' : Nat} {d' : Drawn} {ch : List Addr} (I : Inv X pins σ H s)
    (hch : ∀ b ∈ ch, (b ∈ X.ex ∨ X.s₀.heap.objs.size ≤ b) ∧ b ≠ X.env.locals ∧ (∀ x c, X.env.cells.lookup x = some c → c ≠ b) ∧ ∀ p ∈ X.pn ++ pins, p.1 ≠ b)
    (keep : ∀ b o, b ≠ X.env.locals → b ∉ X.fs → b ∉ ch → s.heap.get? b = some o → H b = none → h'.get? b = some o)
    (slot : ∀ b o, b ≠ X.env.locals → b ∈ X.fs → b ∉ ch → s.heap.get? b = some o → H b = none → ∃ sl, h'.get? b = some { o with slots := sl }) (free : ∀ b o, b ∉ ch → s.heap.get? b = some o → H b = none → H' b = none)
    (there : ∀ b o, b ∉ ch → s.heap.get? b = some o → ∃ o', h'.get? b = some o')
    (tups : ∀ b xs, H b = some (.tup xs) → H' b = some (.tup xs)) (frzs : ∀ b o u, H b = some (.frz o u) → H' b = some (.frz o u)) (tbls : ∀ b ps, H b = some (.tbl ps) → ∃ more, H' b = some (.tbl (ps ++ more)))
    (ns : ∀ m, s.heap.Ns X.env.locals m → h'.Ns X.env.locals m) (hok : HOk X.prog X.w H' h') (hg : AllBare g') :
    Inv X pins σ H' { s with heap := h', gens := g', drawn := d', toks := t' } := by
  have neL : ∀ b o, X.s₀.heap.get? b = some o → b ≠ X.env.locals := fun b o e => Nat.ne_of_lt (Nat.lt_of_lt_of_le (Heap.lt_size e) I.ok.above)
  have neC : ∀ b o, X.s₀.heap.get? b = some o → b ∉ X.ex → b ∉ ch := fun b o e hx hb => by
    rcases (hch b hb).1 with z | z
    · exact hx z
    · exact absurd (Nat.lt_of_lt_of_le (Heap.lt_size e) z) (Nat.lt_irrefl _)
  have cellK : ∀ x c, X.env.cells.lookup x = some c → ∀ v, s.heap.IsCell c v → h'.IsCell c v := fun x c e v ⟨o, ho, hd⟩ => by
    have nch : c ∉ ch := fun z => (hch c z).2.2.1 x c e rfl
    by_cases hc : c ∈ X.fs
    · obtain ⟨sl, q⟩ := slot c o (I.cne x c e) hc nch ho (I.freeC x c e)
      exact ⟨_, q, hd⟩
    · exact ⟨o, keep c o (I.cne x c e) hc nch ho (I.freeC x c e), hd⟩
  refine ⟨I.ok, I.os, hg, ⟨fun b o e n hb hx => ?_, fun b o e n hb hx => ?_, fun b o e n hx => ?_, fun b o e hx => ?_, fun b xs e => tups b xs (I.base.tups b xs e), fun b o xs e => frzs b o xs (I.base.frzs b o xs e), fun b ps e => ?_⟩, ?_, fun x c e => ?_, ?_, fun x c e => ?_, fun p hp => ?_, hok, I.len⟩
  · exact keep b o (neL b o e) hb (neC b o e hx) (I.base.keep b o e n hb hx) (I.base.free b o e n hx)
  · obtain ⟨sl, e1⟩ := I.base.slot b o e n hb hx
    obtain ⟨sl', e2⟩ := slot b _ (neL b o e) hb (neC b o e hx) e1 (I.base.free b o e n hx)
    exact ⟨sl', e2⟩
  · obtain ⟨o', e1⟩ := I.base.there b o e hx
    exact free b o' (neC b o e hx) e1 (I.base.free b o e n hx)
  · obtain ⟨o', e1⟩ := I.base.there b o e hx
    exact there b o' (neC b o e hx) e1
  · obtain ⟨m1, e1⟩ := I.base.tbls b ps e
    obtain ⟨m2, e2⟩ := tbls b _ e1
    exact ⟨m1 ++ m2, by rw [e2, Array.append_assoc]⟩
  · obtain ⟨m, hn, hl⟩ := I.loc
    refine ⟨m, ns m hn, fun i x v e1 e2 e3 => ?_⟩
    obtain ⟨u, r, l⟩ := hl i x v e1 e2 e3
    refine ⟨u, r, ?_⟩
    rcases l with l | ⟨k, c, e, z⟩
    · exact .inl l
    · exact .inr ⟨k, c, e, cellK x c e _ z⟩
  · obtain ⟨v, z⟩ := I.cell x c e
    exact ⟨v, cellK x c e v z⟩
  · obtain ⟨m, ⟨o, _, _, ho, _⟩, _⟩ := I.loc
    exact free _ o (fun z => (hch _ z).2.1 rfl) ho I.free
  · obtain ⟨v, o, ho, hd⟩ := I.cell x c e
    exact free c o (fun z => (hch c z).2.2.1 x c e rfl) ho (I.freeC x c e)
  · obtain ⟨e, n, ne, nf, d⟩ := I.pin p hp
    have nch : p.1 ∉ ch := fun z => (hch p.1 z).2.2.2 p hp rfl
    exact ⟨keep p.1 p.2 ne nf nch e n, free p.1 p.2 nch e n, ne, nf, d⟩
theorem Inv.un {t' : Nat} (I : Inv X pins σ H s) (u : Un X.fs [] H H' s.heap h') (hok : HOk X.prog X.w H' h') : Inv X pins σ H' { s with heap := h', toks := t' } := by
  obtain ⟨m, ⟨o, es, ep, ho, r⟩, _⟩ := id I.loc
  obtain ⟨sl, hL⟩ := u.any ho I.free (by simp)
  exact I.step (g' := s.gens) (d' := s.drawn) (ch := []) (fun _ z => nomatch z) (fun b o _ hb _ e n => u.keep b o e n hb (by simp)) (fun b o _ hb _ e n => u.slot b o e n hb (by simp)) (fun b o _ e n => u.free b o e n (by simp)) (fun b o _ e => u.there b o e (by simp)) u.tups u.frzs u.tbls (fun m' hm => by
    obtain ⟨o', es', ep', ho', r'⟩ := hm
    rw [ho] at ho'; cases ho'
    exact ⟨_, es', ep', hL, r'⟩) hok I.bare
theorem Inv.call {g' : Array GenState} {t' : Nat} {d' : Drawn} {ch : List Addr} (I : Inv X pins σ H s) (u : Un (frs X.stack) ch H H' s.heap h') (hok : HOk X.prog X.w H' h') (hg : AllBare g')
    (hch : ∀ b ∈ ch, (b ∈ X.ex ∨ X.s₀.heap.objs.size ≤ b) ∧ b ≠ X.env.locals ∧ (∀ x c, X.env.cells.lookup x = some c → c ≠ b) ∧ ∀ p ∈ X.pn ++ pins, p.1 ≠ b) :
    Inv X pins σ H' { s with heap := h', gens := g', drawn := d', toks := t' } := by
  obtain ⟨m, ⟨o, es, ep, ho, r⟩, _⟩ := id I.loc
  obtain ⟨sl, hL⟩ := u.any ho I.free fun z => (hch _ z).2.1 rfl
  exact I.step (ch := ch) hch (fun b o hL hb hc e n => u.keep b o e n (fun z => (List.mem_cons.mp (I.stkSub b z)).elim hL hb) hc) (fun b o _ _ hc e n => u.any e n hc) (fun b o hc e n => u.free b o e n hc) (fun b o hc e => u.there b o e hc) u.tups u.frzs u.tbls (fun m' hm => by
    obtain ⟨o', es', ep', ho', r'⟩ := hm
    rw [ho] at ho'; cases ho'
    exact ⟨_, es', ep', hL, r'⟩) hok hg
theorem Inv.turned {t' : Nat} {it : Addr} (I : Inv X pins σ H s) (k : ∀ b o, b ≠ it → s.heap.get? b = some o → h'.get? b = some o) (hn : H it = none) (hL : it ≠ X.env.locals)
    (h1 : it ∈ X.ex ∨ X.s₀.heap.objs.size ≤ it) (h2 : ∀ x c, X.env.cells.lookup x = some c → c ≠ it) (h3 : ∀ p ∈ X.pn ++ pins, p.1 ≠ it) : Inv X pins σ H { s with heap := h', toks := t' } := by
  have nit : ∀ b u, H b = some u → b ≠ it := fun b u e z => by rw [z, hn] at e; cases e
  refine I.step (g' := s.gens) (d' := s.drawn) (ch := [it]) (fun b hb => ?_) (fun b o _ _ hc e _ => k b o (fun z => hc (by simp [z])) e) (fun b o _ _ hc e _ => ⟨o.slots, k b o (fun z => hc (by simp [z])) e⟩) (fun _ _ _ _ n => n)
    (fun b o hc e => ⟨o, k b o (fun z => hc (by simp [z])) e⟩) (fun _ _ e => e) (fun _ _ _ e => e) (fun b ps e => ⟨#[], by rw [e]; simp⟩) (fun m hm => ?_) (fun b u e => ?_) I.bare
  · have e : b = it := by simpa using hb
    subst e
    exact ⟨h1, hL, h2, h3⟩
  · obtain ⟨o, es, ep, ho, r⟩ := hm
    exact ⟨o, es, ep, k _ o (Ne.symm hL) ho, r⟩
  · refine (I.hok b u e).stay (fun c v hc q => k c v ?_ q) (fun _ q => q) fun _ _ q => q
    rcases hc with z | z
    · rw [z]; exact nit b u e
    · exact nit c _ z
theorem Inv.tok (I : Inv X pins σ H s) (t : Nat) : Inv X pins σ H { s with toks := t } := I.un (h' := s.heap) (t' := t) Un.refl I.hok
theorem Inv.kept {t' : Nat} (I : Inv X pins σ H s) (k : ∀ b u, s.heap.get? b = some u → h'.get? b = some u) : Inv X pins σ H { s with heap := h', toks := t' } := I.un (Un.kept k) (I.hok.kept k)
theorem Inv.laid {a : Addr} {o : HO} {t' : Nat} (I : Inv X pins σ H s) (k : ∀ b u, s.heap.get? b = some u → h'.get? b = some u) (hp : s.heap.objs.size ≤ a) (new : ObjOk X.prog X.w (upd H a o) h' a o) :
    Inv X pins σ (upd H a o) { s with heap := h', toks := t' } := I.un (Un.laid k hp (I.hok.fresh hp)) (I.hok.laid k hp new)
theorem Inv.write {x e : Addr} {o : HO} {t' : Nat} (I : Inv X pins σ H s) (mu : Mut (H x)) (he : e = x ∨ H e = some (.own x)) (k : ∀ b u, b ≠ e → s.heap.get? b = some u → h'.get? b = some u) (heo : ∃ u, h'.get? e = some u)
    (new : ObjOk X.prog X.w (upd H x o) h' x o) : Inv X pins σ (upd H x o) { s with heap := h', toks := t' } := I.un (Un.write mu he k heo) (I.hok.write mu he k heo new)
theorem Inv.pins_of {pins' : List (Addr × Obj)} (I : Inv X pins σ H s) (h : ∀ p ∈ pins', s.heap.get? p.1 = some p.2 ∧ H p.1 = none ∧ p.1 ≠ X.env.locals ∧ p.1 ∉ X.fs ∧ ∀ v, p.2.data ≠ .cell v) : Inv X pins' σ H s :=
  ⟨I.ok, I.os, I.bare, I.base, I.loc, I.cell, I.free, I.freeC, fun p hp => (List.mem_append.mp hp).elim (fun z => I.pin p (List.mem_append_left _ z)) (h p), I.hok, I.len⟩
theorem nodup_ix {N : List Str} (hN : N.Nodup) {i j : Nat} {x : Str} (a : N[i]? = some x) (b : N[j]? = some x) : i = j := by
  obtain ⟨h1, e1⟩ := List.getElem?_eq_some_iff.mp a
  obtain ⟨h2, e2⟩ := List.getElem?_eq_some_iff.mp b
  exact (List.getElem_inj hN).mp (e1.trans e2.symm)
theorem store_ok2 {M : Model} {A : Around} {E : Value → Shared → Prop} {i : Nat} {x : Str} {v : V} {u : Value} {Q : Unit → Shared → Prop} (I : Inv X pins σ H s) (hN : X.N.Nodup) (hi : X.N[i]? = some x) (hx : Loc X.env.scope x) (r : RelV v u)
    (h : ∀ s', Inv X pins (σ.set i (some v)) H s' → (∃ a, Heap.SameBut a s.heap s'.heap ∧ (a = X.env.locals ∨ X.env.cells.lookup x = some a)) → Q () s') (hf : X.fn x = true ∨ X.env.scope.names.lookup x = some .local := by first | exact .inl rfl | exact .inr rfl | assumption) : wpAny M A (storeName X.env x u) Q E s := by
  obtain ⟨m, hn, hl⟩ := id I.loc
  have hcls : (X.env.scope.kind == .class || (X.env.scope.kind == .module && X.env.locals != X.env.globals)) = false := by rw [I.ok.kind]; rfl
  have hiσ : i < σ.length := by rw [I.len]; exact (List.getElem?_eq_some_iff.mp hi).1
  have cne := I.cne
  have tracked : ∀ {a : Addr} {h' : Heap}, (∃ o, s.heap.get? a = some o ∧ H a = none) → Heap.SameBut a s.heap h' → HOk X.prog X.w H h' := fun {a h'} ha hs b ob e => by
    obtain ⟨_, _, hfree⟩ := ha
    refine (I.hok b ob e).stay (fun c w' hc q => (hs.2 c ?_).trans q) (fun _ q => q) fun _ _ q => q
    rintro rfl
    rcases hc with rfl | hc
    · rw [hfree] at e; cases e
    · rw [hfree] at hc; cases hc
  rcases hx with hk | hk
  · refine wpAny_storeName_local hk hn (fun h' hn' hs => ?_) hcls
    obtain ⟨oL, _, _, hoL, _⟩ := id hn
    refine h _ ⟨I.ok, I.os, I.bare, ⟨fun b o e n hb hx => ?_, fun b o e n hb hx => ?_, I.base.free, fun b o e hx => ?_, I.base.tups, I.base.frzs, I.base.tbls⟩, ⟨_, hn', fun j y v' e1 e2 e3 => ?_⟩, fun y c e => ?_, I.free, I.freeC, fun p hp => ?_, tracked ⟨oL, hoL, I.free⟩ hs, by simpa using I.len⟩ ⟨_, hs, .inl rfl⟩
    · exact (hs.2 b (Nat.ne_of_lt (Nat.lt_of_lt_of_le (Heap.lt_size e) I.ok.above))).trans (I.base.keep b o e n hb hx)
    · obtain ⟨sl, e1⟩ := I.base.slot b o e n hb hx
      exact ⟨sl, (hs.2 b (Nat.ne_of_lt (Nat.lt_of_lt_of_le (Heap.lt_size e) I.ok.above))).trans e1⟩
    · obtain ⟨o', e1⟩ := I.base.there b o e hx
      exact ⟨o', (hs.2 b (Nat.ne_of_lt (Nat.lt_of_lt_of_le (Heap.lt_size e) I.ok.above))).trans e1⟩
    · by_cases hj : j = i
      · subst hj
        rw [hi] at e1; cases e1
        rw [List.getElem?_set_self hiσ] at e2
        cases e2
        exact ⟨u, r, .inl ⟨hk, by simp⟩⟩
      · rw [List.getElem?_set_ne (Ne.symm hj)] at e2
        obtain ⟨u', r', q⟩ := hl j y v' e1 e2 e3
        refine ⟨u', r', ?_⟩
        rcases q with ⟨k, e⟩ | ⟨k, c, e, z⟩
        · refine .inl ⟨k, ?_⟩
          have : y ≠ x := fun e => hj (nodup_ix hN e1 (e ▸ hi))
          simp [this, e]
        · exact .inr ⟨k, c, e, z.sameBut hs (cne y c e)⟩
    · obtain ⟨w', z⟩ := I.cell y c e
      exact ⟨w', z.sameBut hs (cne y c e)⟩
    · obtain ⟨e, n, ne, nf, d⟩ := I.pin p hp
      exact ⟨(hs.2 p.1 ne).trans e, n, ne, nf, d⟩
  · have hfn : X.fn x = true := by
      rcases hf with z | z
      · exact z
      · rw [z] at hk; cases hk
    obtain ⟨c, hc⟩ := I.ok.has x (.inl hk)
    obtain ⟨w', z⟩ := I.cell x c hc
    refine wpAny_storeName_cell I.ok.kind hk hc z (fun h' hc' hs => ?_)
    obtain ⟨oc, hoc, hocd⟩ := id z
    refine h { s with heap := h' } ⟨I.ok, I.os, I.bare, ⟨fun b o e n hb hx => ?_, fun b o e n hb hx => ?_, I.base.free, fun b o e hx => ?_, I.base.tups, I.base.frzs, I.base.tbls⟩, ⟨m, hn.sameBut hs (Ne.symm (cne x c hc)), fun j y v' e1 e2 e3 => ?_⟩, fun y c' e => ?_, I.free, I.freeC, fun p hp => ?_, tracked ⟨oc, hoc, I.freeC x c hc⟩ hs, by simpa using I.len⟩ ⟨c, hs, .inr hc⟩
    · exact (hs.2 b (Nat.ne_of_lt (Nat.lt_of_lt_of_le (Heap.lt_size e) (I.ok.cab x c hfn hc)))).trans (I.base.keep b o e n hb hx)
    · obtain ⟨sl, e1⟩ := I.base.slot b o e n hb hx
      exact ⟨sl, (hs.2 b (Nat.ne_of_lt (Nat.lt_of_lt_of_le (Heap.lt_size e) (I.ok.cab x c hfn hc)))).trans e1⟩
    · obtain ⟨o', e1⟩ := I.base.there b o e hx
      exact ⟨o', (hs.2 b (Nat.ne_of_lt (Nat.lt_of_lt_of_le (Heap.lt_size e) (I.ok.cab x c hfn hc)))).trans e1⟩
    · by_cases hj : j = i
      · subst hj
        rw [hi] at e1; cases e1
        rw [List.getElem?_set_self hiσ] at e2
        cases e2
        exact ⟨u, r, .inr ⟨.inl hk, c, hc, hc'⟩⟩
      · rw [List.getElem?_set_ne (Ne.symm hj)] at e2
        obtain ⟨u', r', q⟩ := hl j y v' e1 e2 e3
        refine ⟨u', r', ?_⟩
        rcases q with q | ⟨k, c', e, z'⟩
        · exact .inl q
        · refine .inr ⟨k, c', e, z'.sameBut hs ?_⟩
          rintro rfl
          exact hj (nodup_ix hN e1 (I.ok.inj _ _ _ e hc ▸ hi))
    · by_cases hcc : c' = c
      · subst hcc; exact ⟨_, hc'⟩
      · obtain ⟨w2, z2⟩ := I.cell y c' e
        exact ⟨w2, z2.sameBut hs hcc⟩
    · obtain ⟨e, n, ne, nf, d⟩ := I.pin p hp
      refine ⟨(hs.2 p.1 ?_).trans e, n, ne, nf, d⟩
      intro q
      rw [q, hoc] at e
      have q' : oc = p.2 := Option.some.inj e
      exact d w' (by rw [← q']; exact hocd)
theorem store_ok {M : Model} {A : Around} {E : Value → Shared → Prop} {i : Nat} {x : Str} {v : V} {u : Value} {Q : Unit → Shared → Prop} (I : Inv X pins σ H s) (hN : X.N.Nodup) (hi : X.N[i]? = some x) (hx : Loc X.env.scope x) (r : RelV v u)
    (h : ∀ s', Inv X pins (σ.set i (some v)) H s' → Q () s') (hf : X.fn x = true ∨ X.env.scope.names.lookup x = some .local := by first | exact .inl rfl | exact .inr rfl | assumption) : wpAny M A (storeName X.env x u) Q E s :=
  store_ok2 I hN hi hx r (fun s' I' _ => h s' I') hf
theorem Inv.call' {s' : Shared} {ch : List Addr} (I : Inv X pins σ H s) (ho : s'.os = s.os) (u : Un (frs X.stack) ch H H' s.heap s'.heap) (hok : HOk X.prog X.w H' s'.heap) (hg : AllBare s'.gens)
    (hch : ∀ b ∈ ch, (b ∈ X.ex ∨ X.s₀.heap.objs.size ≤ b) ∧ b ≠ X.env.locals ∧ (∀ x c, X.env.cells.lookup x = some c → c ≠ b) ∧ ∀ p ∈ X.pn ++ pins, p.1 ≠ b) : Inv X pins σ H' s' := by
  obtain ⟨h', g', d', t', o'⟩ := s'
  have e : o' = s.os := ho
  subst e
  exact I.call (g' := g') (t' := t') (d' := d') u hok hg hch
end
abbrev XK := Value → Option Addr → Hp → Prop
abbrev St := List (Option V)
abbrev VK := V → Hp → Prop
abbrev TE := St → Hp → VK → Prop
abbrev TT := St → Hp → (Bool → Hp → Prop) → Prop
abbrev TA := St → Hp → (List V → Hp → Prop) → Prop
structure Ends where
  nx : St → Hp → Prop
  rt : VK
  bk : St → Hp → Prop := fun _ _ => False
  ct : St → Hp → Prop := fun _ _ => False
abbrev TS := Ends → St → Hp → Prop
def EP (X : Cx) (pins : List (Addr × Obj)) (σ : St) (Q : VK) (u : Value) (s' : Shared) : Prop := ∃ v H', Inv X pins σ H' s' ∧ RelV v u ∧ Q v H'
def TP (X : Cx) (pins : List (Addr × Obj)) (σ : St) (Q : Bool → Hp → Prop) (b : Bool) (s' : Shared) : Prop := ∃ H', Inv X pins σ H' s' ∧ Q b H'
def AP (X : Cx) (pins : List (Addr × Obj)) (σ : St) (Q : List V → Hp → Prop) (us : List Value) (s' : Shared) : Prop := ∃ vs H', Inv X pins σ H' s' ∧ Vals vs us ∧ Q vs H'
def SP (X : Cx) (pins : List (Addr × Obj)) (D : Ends) (f : Flow) (s' : Shared) : Prop :=
  match f with
  | .next => ∃ σ' H', Inv X pins σ' H' s' ∧ D.nx σ' H'
  | .brk => ∃ σ' H', Inv X pins σ' H' s' ∧ D.bk σ' H'
  | .cont => ∃ σ' H', Inv X pins σ' H' s' ∧ D.ct σ' H'
  | .ret u => ∃ v σ' H', Inv X pins σ' H' s' ∧ RelV v u ∧ D.rt v H'
def PE (X : Cx) (e : Expr) (t : TE) : Prop :=
  ∀ (pins : List (Addr × Obj)) (s : Shared) (σ : St) (H : Hp) (Q : VK), Inv X pins σ H s → t σ H Q → wpAny (model X.prog X.w) X.A (eval e X.env) (EP X pins σ Q) X.xe s
def PT (X : Cx) (e : Expr) (t : TT) : Prop :=
  ∀ (pins : List (Addr × Obj)) (s : Shared) (σ : St) (H : Hp) (Q : Bool → Hp → Prop), Inv X pins σ H s → t σ H Q → wpAny (model X.prog X.w) X.A (isTrue e X.env (eval e X.env)) (TP X pins σ Q) X.xe s
def PW (X : Cx) (e : Expr) (t : TT) : Prop :=
  ∀ (whole : Sem Value) (pins : List (Addr × Obj)) (s : Shared) (σ : St) (H : Hp) (Q : Bool → Hp → Prop), Inv X pins σ H s → t σ H Q → wpAny (model X.prog X.w) X.A (isTrue e X.env whole) (TP X pins σ Q) X.xe s
theorem PW.pt {X : Cx} {e : Expr} {t : TT} (h : PW X e t) : PT X e t := h _
def PA (X : Cx) (es : List Expr) (t : TA) : Prop :=
  ∀ (pos : Pos) (pins : List (Addr × Obj)) (s : Shared) (σ : St) (H : Hp) (Q : List V → Hp → Prop), Inv X pins σ H s → t σ H Q → wpAny (model X.prog X.w) X.A (spliced (backTo pos (starEach es X.env))) (AP X pins σ Q) X.xe s
def PS (X : Cx) (st : Stmt) (t : TS) : Prop :=
  ∀ (pins : List (Addr × Obj)) (s : Shared) (σ : St) (H : Hp) (D : Ends), Inv X pins σ H s → t D σ H → wpAny (model X.prog X.w) X.A (exec st X.env) (SP X pins D) X.xe s
def PSs (X : Cx) (st : List Stmt) (t : TS) : Prop :=
  ∀ (pins : List (Addr × Obj)) (s : Shared) (σ : St) (H : Hp) (D : Ends), Inv X pins σ H s → t D σ H → wpAny (model X.prog X.w) X.A (execs st X.env) (SP X pins D) X.xe s
theorem thn {α : Type} {t : Sem α} {Q Q' : α → Shared → Prop} {M : Model} {A : Around} {E : Value → Shared → Prop} {s : Shared} (h : wpAny M A t Q E s) (hQ : ∀ a s, Q a s → Q' a s) : wpAny M A t Q' E s := wpAny_mono h hQ fun _ _ x => x
end L2
namespace L2
open PySem PySem.Spec PyProof.Rows
section
variable {X : Cx}
def tVar (i : Nat) : TE := fun σ H Q => ∃ v, σ[i]? = some (some v) ∧ Q v H
def tC (v : V) : TE := fun _ H Q => Q v H
theorem pe_var {i : Nat} {x : Str} {pos : Pos} (hN : X.N[i]? = some x) (hv : Vis X.env.scope x) (hd : (x == ("__debug__" : Str)) = false := by decide) (hcd : (x == ("__classdict__" : Str)) = false := by decide) : PE X (.Name x pos) (tVar i) := by
  intro pins s σ H Q I h
  obtain ⟨v, e, h⟩ := h
  obtain ⟨m, hn, hl⟩ := I.loc
  obtain ⟨u, r, l⟩ := hl i x v hN e hv
  have fin : EP X pins σ Q u s := ⟨v, H, I, r, h⟩
  rcases l with ⟨hk, hm⟩ | ⟨hk, c, hc, hcell⟩
  · exact wpAny_Name (wpAny_loadName_local I.ok.kind hk hn hm fin) hd
  · rcases hk with hk | hk
    · exact wpAny_Name (wpAny_loadName_cell I.ok.kind hk hc hcell fin) hd
    · exact wpAny_Name (wpAny_loadName_free I.ok.kind hk hc hcell fin hcd) hd
theorem pe_int {i j pos} : PE X (.Constant (.int i) j pos) (tC (.int i)) := fun _ _ _ H _ I h => wpAny_Constant_int ⟨.int i, H, I.tok _, ⟨_, rfl⟩, h⟩
theorem pe_bl {b j pos} : PE X (.Constant (.bool b) j pos) (tC (.bl b)) := fun _ _ _ H _ I h => Constant_bool ⟨.bl b, H, I, rfl, h⟩
theorem pe_non {j pos} : PE X (.Constant .none j pos) (tC .non) := fun _ _ _ H _ I h => Constant_none ⟨.non, H, I, rfl, h⟩
theorem pe_str {x j pos} : PE X (.Constant (.str x) j pos) (tC (.str x)) := fun _ _ _ H _ I h => Calls.Constant_str ⟨.str x, H, I.tok _, ⟨_, rfl⟩, h⟩
def Gl (X : Cx) (x : Str) : Prop := X.env.kindOf x = some .globalImplicit
theorem ld_glob {E : Value → Shared → Prop} {pins : List (Addr × Obj)} {s : Shared} {σ : St} {H : Hp} {x : Str} {u : Value} {pos : Pos} {Q : Value → Shared → Prop} (I : Inv X pins σ H s) (hg : Gl X x) (hm : X.mg x = some u) (h : Q u s)
    (hd : (x == ("__debug__" : Str)) = false := by decide) : wpAny (model X.prog X.w) X.A (eval (.Name x pos) X.env) Q E s :=
  Calls.Name_function_global I.ok.kind hg (Calls.loadGlobal_global (by rw [I.ok.glob]; exact I.mod.glob.keeps I.bk) hm h) hd
theorem ld_blt {E : Value → Shared → Prop} {pins : List (Addr × Obj)} {s : Shared} {σ : St} {H : Hp} {x : Str} {u : Value} {pos : Pos} {Q : Value → Shared → Prop} (I : Inv X pins σ H s) (hg : Gl X x) (hm : X.mg x = none) (hv : bootBuiltins x = some u) (h : Q u s)
    (hn : x ≠ "__name__" := by decide) (hd : (x == ("__debug__" : Str)) = false := by decide) : wpAny (model X.prog X.w) X.A (eval (.Name x pos) X.env) Q E s := by
  obtain ⟨mb, h1, h2⟩ := I.mod.blt
  exact Calls.Name_function_global I.ok.kind hg (Calls.loadGlobal_builtin (by rw [I.ok.glob]; exact I.mod.glob.keeps I.bk) hm (by rw [I.ok.blt]; exact h1.keeps I.bk) ((h2 x hn).trans hv) h) hd
theorem pe_glob {x : Str} {v : V} {u : Value} {pos : Pos} (hg : Gl X x) (hm : X.mg x = some u) (r : RelV v u) (hd : (x == ("__debug__" : Str)) = false := by decide) : PE X (.Name x pos) (tC v) :=
  fun _ _ _ H _ I h => ld_glob I hg hm ⟨v, H, I, r, h⟩ hd
theorem pe_bltn {x : Str} {v : V} {u : Value} {pos : Pos} (hg : Gl X x) (hm : X.mg x = none) (hv : bootBuiltins x = some u) (r : RelV v u) (hn : x ≠ "__name__" := by decide) (hd : (x == ("__debug__" : Str)) = false := by decide) : PE X (.Name x pos) (tC v) :=
  fun _ _ _ H _ I h => ld_blt I hg hm hv ⟨v, H, I, r, h⟩ hn hd
variable {a b : Expr} {ta tb : TE} {pos : Pos}
theorem nobehind (b : Expr) {op : CmpOp} (h : op ≠ .In) (h2 : op ≠ .NotIn) : behindInMarks op b = false := by
  have e1 : (op == CmpOp.In) = false := by cases op <;> first | rfl | exact absurd rfl h
  have e2 : (op == CmpOp.NotIn) = false := by cases op <;> first | rfl | exact absurd rfl h2
  cases b <;> simp [behindInMarks, e1, e2]
def tB (t : TE) : TT := fun σ H Q => t σ H fun x H1 => ∃ c, x = .bl c ∧ Q c H1
theorem pt_val {e : Expr} {t : TE} (h : PE X e t) (he : ∀ whole, isTrue e X.env whole = (do let v ← whole; standAt e.pos; holding [v] (truthy v)) := by intro _; rfl) : PT X e (tB t) := by
  intro pins s σ H Q I hw
  refine isTrue_plain (thn (h pins s σ H _ I hw) fun v s1 ⟨x, H1, I1, r1, q1⟩ => ?_) (he _)
  obtain ⟨d, rfl, q⟩ := q1
  cases r1
  exact wpAny_truthy_bool ⟨H1, I1, q⟩
variable {tA tB' : TT} {rest : List Expr}
def tAnd (t u : TT) : TT := fun σ H Q => t σ H fun c H1 => if c = true then u σ H1 Q else Q false H1
def tOr (t u : TT) : TT := fun σ H Q => t σ H fun c H1 => if c = true then Q true H1 else u σ H1 Q
def tNot (t : TT) : TT := fun σ H Q => t σ H fun c H1 => Q (!c) H1
theorem pw_and1 (ha : PT X a tA) : PW X (.BoolOp .And [a] pos) tA := by
  intro wh pins s σ H Q I h
  refine isTrue_and (thn (ha pins s σ H Q I h) fun c s1 e => ?_)
  cases c with
  | true => exact isTrue_and_nil e
  | false => exact e
theorem pw_or1 (ha : PT X a tA) : PW X (.BoolOp .Or [a] pos) tA := by
  intro wh pins s σ H Q I h
  refine isTrue_or (thn (ha pins s σ H Q I h) fun c s1 e => ?_)
  cases c with
  | false => exact isTrue_or_nil e
  | true => exact e
theorem pw_and (ha : PT X a tA) (hb : PW X (.BoolOp .And (b :: rest) pos) tB') : PW X (.BoolOp .And (a :: b :: rest) pos) (tAnd tA tB') := by
  intro wh pins s σ H Q I h
  refine isTrue_and (thn (ha pins s σ H _ I h) fun c s1 ⟨H1, I1, q1⟩ => ?_)
  cases c with
  | true => exact hb wh pins s1 σ H1 Q I1 q1
  | false => exact ⟨H1, I1, q1⟩
theorem pw_or (ha : PT X a tA) (hb : PW X (.BoolOp .Or (b :: rest) pos) tB') : PW X (.BoolOp .Or (a :: b :: rest) pos) (tOr tA tB') := by
  intro wh pins s σ H Q I h
  refine isTrue_or (thn (ha pins s σ H _ I h) fun c s1 ⟨H1, I1, q1⟩ => ?_)
  cases c with
  | true => exact ⟨H1, I1, q1⟩
  | false => exact hb wh pins s1 σ H1 Q I1 q1
theorem pt_not (ha : PT X a tA) : PT X (.UnaryOp .Not a pos) (tNot tA) := by
  intro pins s σ H Q I h
  exact isTrue_not (ha pins s σ H (fun c H1 => Q (!c) H1) I h)
def tAndV (ta tb : TE) : TE := fun σ H Q => ta σ H fun x H1 => ∃ c, x = .bl c ∧ if c = true then tb σ H1 Q else Q (.bl false) H1
def tNotV (ta : TE) : TE := fun σ H Q => ta σ H fun x H1 => ∃ c, x = .bl c ∧ Q (.bl (!c)) H1
theorem pe_one {op} {t : TE} (h : PE X a t) : PE X (.BoolOp op [a] pos) t := fun pins s σ H Q I hw => BoolOp_one (h pins s σ H Q I hw)
theorem pe_and (ha : PE X a ta) (hb : PE X (.BoolOp .And (b :: rest) pos) tb) : PE X (.BoolOp .And (a :: b :: rest) pos) (tAndV ta tb) := by
  intro pins s σ H Q I h
  refine BoolOp_and (thn (ha pins s σ H _ I h) fun v s1 ⟨x, H1, I1, r1, q1⟩ => ?_)
  obtain ⟨c, rfl, q1⟩ := q1
  cases r1
  refine wpAny_truthy_bool ?_
  cases c with
  | true => exact hb pins s1 σ H1 Q I1 q1
  | false => exact ⟨.bl false, H1, I1, rfl, q1⟩
theorem pe_not (ha : PE X a ta) : PE X (.UnaryOp .Not a pos) (tNotV ta) := by
  intro pins s σ H Q I h
  refine UnaryOp_ (thn (ha pins s σ H _ I h) fun v s1 ⟨x, H1, I1, r1, q1⟩ => ?_)
  obtain ⟨c, rfl, q1⟩ := q1
  cases r1
  exact not_of (wpAny_truthy_bool ⟨.bl (!c), H1, I1, rfl, q1⟩)
end
end L2
namespace L2
open PySem PySem.Spec PyProof.Rows
def SqL (K : PySem.W.Frag) (H : Hp) (a : Addr) (xs : List V) : Prop :=
  Rd H a (.lst xs) ∨
    ∃ (o : Obj) (its : Array Value) (n : Nat), K.lookup a = some o ∧ o.cls = .type "list" ∧ o.dict = none ∧ o.data = .seq its n ∧ its.size ≤ sizeLine ∧ Vals xs its.toList
def SqT (K : PySem.W.Frag) (H : Hp) (a : Addr) (xs : List V) : Prop :=
  Rd H a (.tup xs) ∨
    ∃ (o : Obj) (its : Array Value) (n : Nat), K.lookup a = some o ∧ o.cls = .type "tuple" ∧ o.data = .seq its n ∧ its.size ≤ sizeLine ∧ Vals xs its.toList
def absV : Value → Option V
  | .none => some .non
  | .bool b => some (.bl b)
  | .int i _ => some (.int i)
  | .str x _ => some (.str x)
  | .bytes b _ => some (.byt b)
  | .float b _ => some (.flt b)
  | .ref a => some (.ref a)
  | .type n => some (.ty n)
  | _ => none
theorem RelV.abs {x : V} {u : Value} (r : RelV x u) : absV u = some x := by
  cases x with
  | non => cases r; rfl
  | bl _ => cases r; rfl
  | int _ => obtain ⟨t, rfl⟩ := r; rfl
  | str _ => obtain ⟨t, rfl⟩ := r; rfl
  | byt _ => obtain ⟨t, rfl⟩ := r; rfl
  | flt _ => obtain ⟨t, rfl⟩ := r; rfl
  | ref _ => cases r; rfl
  | ty _ => cases r; rfl
theorem RelV.inj {x y : V} {u : Value} (r : RelV x u) (q : RelV y u) : x = y := Option.some.inj (r.abs.symm.trans q.abs)
theorem Vals.inj : ∀ {xs ys : List V} {us : List Value}, Vals xs us → Vals ys us → xs = ys
  | _, _, _, .nil, .nil => rfl
  | _, _, _, .cons r t, .cons r' t' => by rw [r.inj r', Vals.inj t t']
section
variable {X : Cx} {pins : List (Addr × Obj)} {σ : St} {H : Hp} {s : Shared} {a : Addr} {xs ys : List V}
theorem SqL.of {K : PySem.W.Frag} (h : H a = some (.lst xs)) : SqL K H a xs := .inl (.inl h)
theorem SqT.of {K : PySem.W.Frag} (h : H a = some (.tup xs)) : SqT K H a xs := .inl (.inl h)
theorem Inv.list (I : Inv X pins σ H s) (h : SqL X.K H a xs) : ∃ its : List Value, Vals xs its ∧ PlainL s.heap a its.toArray ∧ xs.length ≤ sizeLine := by
  rcases h with h | ⟨o, its, n, hk, hc, hd, hs, hz, r⟩
  · obtain ⟨z, its, n, r, e⟩ := h.ok I.hok
    exact ⟨its, r, ⟨_, n, e, rfl, rfl, rfl⟩, z⟩
  · refine ⟨its.toList, r, ⟨o, n, I.kIn a o hk, hc, hd, by simpa using hs⟩, ?_⟩
    have e := r.length
    simp only [Array.length_toList] at e
    omega
theorem Inv.tuple (I : Inv X pins σ H s) (h : SqT X.K H a xs) : ∃ its : List Value, Vals xs its ∧ IsTup s.heap a its.toArray ∧ xs.length ≤ sizeLine := by
  rcases h with h | ⟨o, its, n, hk, hc, hs, hz, r⟩
  · obtain ⟨z, its, r, p⟩ := h.ok I.hok
    exact ⟨its, r, p, z⟩
  · refine ⟨its.toList, r, ⟨o, I.kIn a o hk, hc, n, by simpa using hs⟩, ?_⟩
    have e := r.length
    simp only [Array.length_toList] at e
    omega
theorem Inv.list_inj (I : Inv X pins σ H s) (h : SqL X.K H a xs) (h' : SqL X.K H a ys) : xs = ys := by
  obtain ⟨its, r, ⟨o, n, e, _, _, d⟩, _⟩ := I.list h
  obtain ⟨its', r', ⟨o', n', e', _, _, d'⟩, _⟩ := I.list h'
  rw [e] at e'; cases e'
  rw [d] at d'
  injection d' with d1 _
  have : its = its' := by simpa using congrArg Array.toList d1
  subst this
  exact r.inj r'
theorem Inv.tuple_inj (I : Inv X pins σ H s) (h : SqT X.K H a xs) (h' : SqT X.K H a ys) : xs = ys := by
  obtain ⟨its, r, ⟨o, e, _, n, d⟩, _⟩ := I.tuple h
  obtain ⟨its', r', ⟨o', e', _, n', d'⟩, _⟩ := I.tuple h'
  rw [e] at e'; cases e'
  rw [d] at d'
  injection d' with d1 _
  have : its = its' := by simpa using congrArg Array.toList d1
  subst this
  exact r.inj r'
end
abbrev Cx.wish (X : Cx) (E : Value → Shared → Prop) : Cx := { X with xe := E }
abbrev Cx.nox (X : Cx) : Cx := X.wish fun _ _ => False
theorem Cx.Ok.wish {X : Cx} (ok : X.Ok) (E : Value → Shared → Prop) : (X.wish E).Ok :=
  ⟨ok.mod, ok.kind, ok.glob, ok.blt, ok.above, ok.inj, ok.has, ok.cab, ok.hd, ok.frames, ok.stk, ok.exf, ok.bs, ok.bsz, ok.noex, ok.exfs, ok.funs, ok.frf⟩
theorem Cx.Ok.unwish {X : Cx} {E : Value → Shared → Prop} (ok : (X.wish E).Ok) : X.Ok :=
  ⟨ok.mod, ok.kind, ok.glob, ok.blt, ok.above, ok.inj, ok.has, ok.cab, ok.hd, ok.frames, ok.stk, ok.exf, ok.bs, ok.bsz, ok.noex, ok.exfs, ok.funs, ok.frf⟩
section
variable {X : Cx} {pins : List (Addr × Obj)} {σ : St} {H : Hp} {s : Shared} {E : Value → Shared → Prop}
theorem Inv.wish (I : Inv X pins σ H s) (E : Value → Shared → Prop) : Inv (X.wish E) pins σ H s := ⟨I.ok.wish E, I.os, I.bare, I.base, I.loc, I.cell, I.free, I.freeC, I.pin, I.hok, I.len⟩
theorem Inv.unwish (I : Inv (X.wish E) pins σ H s) : Inv X pins σ H s := ⟨I.ok.unwish, I.os, I.bare, I.base, I.loc, I.cell, I.free, I.freeC, I.pin, I.hok, I.len⟩
theorem SP.unwish {D : Ends} {f : Flow} {s' : Shared} (h : SP (X.wish E) pins D f s') : SP X pins D f s' := by
  cases f with
  | next => obtain ⟨σ', H', I, q⟩ := h; exact ⟨σ', H', I.unwish, q⟩
  | brk => obtain ⟨σ', H', I, q⟩ := h; exact ⟨σ', H', I.unwish, q⟩
  | cont => obtain ⟨σ', H', I, q⟩ := h; exact ⟨σ', H', I.unwish, q⟩
  | ret u => obtain ⟨v, σ', H', I, r, q⟩ := h; exact ⟨v, σ', H', I.unwish, r, q⟩
theorem PSs.nox {st : List Stmt} {t : TS} (h : PSs X.nox st t) : PSs X st t := fun pins s σ H D I hw =>
  wpAny_mono (h pins s σ H D (I.wish _) hw) (fun _ _ q => q.unwish) fun _ _ z => False.elim z
end
section
variable {X : Cx} {st : Stmt} {rest : List Stmt} {t u : TS} {e : Expr} {te : TE} {pos : Pos}
def tNext : TS := fun D σ H => D.nx σ H
def tSeq (t u : TS) : TS := fun D σ H => t { D with nx := u D } σ H
theorem pss_nil : PSs X [] tNext := fun _ _ σ H _ I h => wpAny_execs_nil ⟨σ, H, I, h⟩
theorem pss_cons (h1 : PS X st t) (h2 : PSs X rest u) : PSs X (st :: rest) (tSeq t u) := by
  intro pins s σ H D I h
  refine wpAny_execs_cons (thn (h1 pins s σ H { D with nx := u D } I h) fun f s1 q => ?_)
  cases f with
  | next =>
    obtain ⟨σ', H', I', q⟩ := q
    exact h2 pins s1 σ' H' D I' q
  | ret v => exact q
  | brk => exact q
  | cont => exact q
theorem pss_one (h1 : PS X st t) : PSs X [st] t := by
  intro pins s σ H D I h
  refine wpAny_execs_cons (thn (h1 pins s σ H D I h) fun f s1 q => ?_)
  cases f with
  | next => exact wpAny_execs_nil q
  | ret v => exact q
  | brk => exact q
  | cont => exact q
theorem Inv.quiet {pins : List (Addr × Obj)} {σ : St} {H : Hp} {s : Shared} (I : Inv X pins σ H s) : interactive X.env = false := by simp [interactive, I.ok.kind]
def tDrop (te : TE) : TS := fun D σ H => te σ H fun _ H1 => D.nx σ H1
theorem ps_expr (he : PE X e te) (hs : swapsWith e none pos.line X.env = pure false := by rfl) : PS X (.Expr e pos) (tDrop te) := by
  intro pins s σ H D I h
  exact wpAny_Expr_any (thn (he pins s σ H _ I h) fun v s1 ⟨x, H1, I1, r1, q1⟩ => ⟨σ, H1, I1, q1⟩) I.quiet hs
def tRet (te : TE) : TS := fun D σ H => te σ H D.rt
theorem ps_ret (he : PE X e te) : PS X (.Return (some e) pos) (tRet te) := by
  intro pins s σ H D I h
  exact wpAny_Return_some (thn (he pins s σ H _ I h) fun v s1 ⟨x, H1, I1, r1, q1⟩ => ⟨x, σ, H1, I1, r1, q1⟩)
def tIfS (c : TT) (t u : TS) : TS := fun D σ H => c σ H fun b H1 => if b = true then t D σ H1 else u D σ H1
theorem ps_if {c : Expr} {a b : List Stmt} {tc : TT} (hc : PT X c tc) (ha : PSs X a t) (hb : PSs X b u) : PS X (.If c a b pos) (tIfS tc t u) := by
  intro pins s σ H D I h
  refine wpAny_If (thn (hc pins s σ H _ I h) fun d s1 ⟨H1, I1, q1⟩ => ?_)
  cases d with
  | true => exact ha pins s1 σ H1 D I1 q1
  | false => exact hb pins s1 σ H1 D I1 q1
def tNever : TS := fun _ _ _ => False
theorem pss_never {sts : List Stmt} : PSs X sts tNever := fun _ _ _ _ _ _ h => h.elim
end
abbrev TG := V → St → Hp → (St → Hp → Prop) → Prop
abbrev TGs := List V → St → Hp → (St → Hp → Prop) → Prop
def PG (X : Cx) (target : Expr) (t : TG) : Prop :=
  ∀ (pins : List (Addr × Obj)) (s : Shared) (σ : St) (H : Hp) (v : V) (u : Value) (Q : St → Hp → Prop), Inv X pins σ H s → RelV v u → t v σ H Q →
    wpAny (model X.prog X.w) X.A (assign target X.env u) (fun _ s' => ∃ σ' H', Inv X pins σ' H' s' ∧ Q σ' H') X.xe s
def PGs (X : Cx) (ts : List Expr) (t : TGs) : Prop :=
  ∀ (pins : List (Addr × Obj)) (s : Shared) (σ : St) (H : Hp) (vs : List V) (us : List Value) (Q : St → Hp → Prop), Inv X pins σ H s → Vals vs us → t vs σ H Q →
    wpAny (model X.prog X.w) X.A (assignInOrder ((assignEach ts X.env).map (·.2)) us) (fun _ s' => ∃ σ' H', Inv X pins σ' H' s' ∧ Q σ' H') X.xe s
abbrev TSet := V → V → V → Hp → (Hp → Prop) → Prop
def PSet (X : Cx) (t : TSet) : Prop :=
  ∀ (pins : List (Addr × Obj)) (s : Shared) (σ : St) (H : Hp) (o i v : V) (ov iv u : Value) (Q : Hp → Prop), Inv X pins σ H s → RelV o ov → RelV i iv → RelV v u → t o i v H Q →
    wpAny (model X.prog X.w) X.A (setItem ov iv u) (fun _ s' => ∃ H', Inv X pins σ H' s' ∧ Q H') X.xe s
abbrev TIp := V → V → Hp → VK → Prop
def PIp (X : Cx) (op : Operator) (t : TIp) : Prop :=
  ∀ (pins : List (Addr × Obj)) (s : Shared) (σ : St) (H : Hp) (x y : V) (v u : Value) (Q : VK), Inv X pins σ H s → RelV x v → RelV y u → t x y H Q →
    wpAny (model X.prog X.w) X.A (inplaceOp op v u) (EP X pins σ Q) X.xe s
section
variable {X : Cx} {pos : Pos}
def gName (i : Nat) : TG := fun v σ H Q => Q (σ.set i (some v)) H
theorem pg_name {i : Nat} {x : Str} (hN : X.N.Nodup) (hi : X.N[i]? = some x) (hx : Loc X.env.scope x) (hf : X.fn x = true ∨ X.env.scope.names.lookup x = some .local := by first | exact .inl rfl | exact .inr rfl | assumption) : PG X (.Name x pos) (gName i) := by
  intro pins s σ H v u Q I r h
  exact wpAny_assign_Name (store_ok I hN hi hx r (fun s' I' => ⟨_, H, I', h⟩) hf)
def gNil : TGs := fun vs σ H Q => vs = [] ∧ Q σ H
def gCons (t : TG) (u : TGs) : TGs := fun vs σ H Q => ∃ v r, vs = v :: r ∧ t v σ H fun σ' H' => u r σ' H' Q
theorem pgs_nil : PGs X [] gNil := by
  intro pins s σ H vs us Q I r h
  obtain ⟨e, h⟩ := h
  subst e
  cases r
  exact assignInOrder_nil ⟨σ, H, I, h⟩
theorem pgs_cons {e : Expr} {es : List Expr} {t : TG} {u : TGs} (h1 : PG X e t) (h2 : PGs X es u)
    (hs : (assignEach (e :: es) X.env).map (·.2) = assign e X.env :: (assignEach es X.env).map (·.2) := by rfl) : PGs X (e :: es) (gCons t u) := by
  intro pins s σ H vs us Q I r h
  obtain ⟨v, vr, e1, h⟩ := h
  subst e1
  cases r with
  | cons r rr =>
    rw [hs]
    refine assignInOrder_cons (thn (h1 pins s σ H _ _ _ I r h) fun _ s1 ⟨σ1, H1, I1, q1⟩ => ?_)
    exact h2 pins s1 σ1 H1 _ _ Q I1 rr q1
def gTup (K : PySem.W.Frag) (n : Nat) (t : TGs) : TG := fun v σ H Q => ∃ a xs, v = .ref a ∧ SqT K H a xs ∧ xs.length = n ∧ t xs σ H Q
theorem pg_tup {es : List Expr} {k : Nat} {t : TGs} {n : Nat} (hc : X.calm = true) (h : PGs X es t)
    (hn : (assignEach es X.env).length = n := by rfl) (hst : (assignEach es X.env).findIdx? (·.1) = none := by rfl) : PG X (.Tuple es k pos) (gTup X.K n t) := by
  intro pins s σ H v u Q I r hw
  obtain ⟨a, xs, e1, hq, hl, hw⟩ := hw
  subst e1
  cases r
  obtain ⟨its, rv, ht, hz⟩ := I.tuple hq
  refine assign_Tuple_tuple (I.ok.hd hc) ht (by simp [hn, ← hl, rv.length]) hst fun h' hx => ?_
  have I1 : Inv X pins σ H { s with heap := h' } := I.kept (t' := s.toks) fun b o e => hx b o (Nat.ne_of_lt (Heap.lt_size e)) e
  exact h pins _ σ H xs _ Q I1 (by simpa using rv) hw
def gSub (to ti : TE) (t : TSet) : TG := fun v σ H Q => to σ H fun o H1 => ti σ H1 fun i H2 => t o i v H2 fun H3 => Q σ H3
theorem pg_sub {o i : Expr} {to ti : TE} {t : TSet} (ho : PE X o to) (hi : PE X i ti) (hs : PSet X t)
    (ha : ∀ v, assign (.Subscript o i pos) X.env v = (do
      let ov ← holding [v] (eval o X.env)
      let iv ← holding [v, ov] (eval i X.env)
      standAt pos
      holding [v, ov, iv] (setItem ov iv v)
      release [v, ov, iv] []) := by intro _; rfl) : PG X (.Subscript o i pos) (gSub to ti t) := by
  intro pins s σ H v u Q I r h
  rw [ha]
  refine wpAny_bind (wpAny_holding (thn (ho pins s σ H _ I h) fun ov s1 ⟨x, H1, I1, r1, q1⟩ => ?_))
  refine wpAny_bind (wpAny_holding (thn (hi pins s1 σ H1 _ I1 q1) fun iv s2 ⟨y, H2, I2, r2, q2⟩ => ?_))
  refine wpAny_bind (wpAny_standAt (wpAny_bind (wpAny_holding (thn (hs pins s2 σ H2 x y v ov iv u _ I2 r1 r2 r q2) fun _ s3 ⟨H3, I3, q3⟩ => ?_))))
  exact wpAny_release ⟨σ, H3, I3, q3⟩
def tAsg (te : TE) (g : TG) : TS := fun D σ H => te σ H fun x H1 => g x σ H1 D.nx
theorem ps_asg {tg e : Expr} {te : TE} {g : TG} (he : PE X e te) (hg : PG X tg g) (hs : swapsWithSole [tg] e pos.line X.env = pure false := by rfl) (hw : swappedStores [tg] e X.env = pure none := by rfl)
    (h1 : (assignEach [tg] X.env).map (·.2) = [assign tg X.env] := by rfl) : PS X (.Assign [tg] e pos) (tAsg te g) := by
  intro pins s σ H D I h
  refine wpAny_Assign_stores (thn (he pins s σ H _ I h) fun v s1 ⟨x, H1, I1, r1, q1⟩ => ?_) hs hw
  rw [h1]
  exact thn (hg pins s1 σ H1 x v _ I1 r1 q1) fun _ s2 q => q
theorem ps_set {i : Nat} {x : Str} {e : Expr} {te : TE} {pos' : Pos} (hN : X.N.Nodup) (hi : X.N[i]? = some x) (hx : Loc X.env.scope x) (he : PE X e te) (hs : swapsWith e (some (.Name x pos')) pos.line X.env = pure false := by rfl) (hf : X.fn x = true ∨ X.env.scope.names.lookup x = some .local := by first | exact .inl rfl | exact .inr rfl | assumption) :
    PS X (.Assign [.Name x pos'] e pos) (tAsg te (gName i)) := by
  intro pins s σ H D I h
  refine wpAny_Assign_Name (thn (he pins s σ H _ I h) fun v s1 ⟨y, H1, I1, r1, q1⟩ => ?_) hs
  exact store_ok I1 hN hi hx r1 (fun s2 I2 => ⟨_, H1, I2, q1⟩) hf
def tAug (i : Nat) (te : TE) (ti : TIp) : TS := fun D σ H => ∃ x, σ[i]? = some (some x) ∧ te σ H fun y H1 => ti x y H1 fun z H2 => D.nx (σ.set i (some z)) H2
theorem ps_aug {i : Nat} {x : Str} {e : Expr} {te : TE} {op : Operator} {ti : TIp} {pos' : Pos} (hN : X.N.Nodup) (hi : X.N[i]? = some x) (hx : Loc X.env.scope x) (he : PE X e te) (ho : PIp X op ti) (hf : X.fn x = true ∨ X.env.scope.names.lookup x = some .local := by first | exact .inl rfl | exact .inr rfl | assumption) :
    PS X (.AugAssign (.Name x pos') op e pos) (tAug i te ti) := by
  intro pins s σ H D I h
  obtain ⟨v, e1, h⟩ := h
  obtain ⟨m, hn, hl⟩ := I.loc
  have vis : Vis X.env.scope x := by rcases hx with k | k; exact .inl k; exact .inr (.inl k)
  obtain ⟨u, r, l⟩ := hl i x v hi e1 vis
  refine wpAny_AugAssign_Name ?_
  have go : wpAny (model X.prog X.w) X.A (eval e X.env) (fun w s₂ => wpAny (model X.prog X.w) X.A (inplaceOp op u w) (fun r s₃ => wpAny (model X.prog X.w) X.A (storeName X.env x r) (fun _ => SP X pins D .next) X.xe s₃) X.xe s₂) X.xe s := by
    refine thn (he pins s σ H _ I h) fun w s1 ⟨y, H1, I1, r1, q1⟩ => ?_
    refine thn (ho pins s1 σ H1 v y u w _ I1 r r1 q1) fun z s2 ⟨zv, H2, I2, r2, q2⟩ => ?_
    exact store_ok I2 hN hi hx r2 (fun s3 I3 => ⟨_, H2, I3, q2⟩) hf
  rcases l with ⟨hk, hm⟩ | ⟨hk, c, hc, hcell⟩
  · exact wpAny_loadName_local I.ok.kind hk hn hm go
  · rcases hk with hk | hk
    · exact wpAny_loadName_cell I.ok.kind hk hc hcell go
    · rcases hx with k | k
      · have : X.env.scope.names.lookup x = some .free := hk
        rw [k] at this; cases this
      · have : X.env.scope.names.lookup x = some .free := hk
        rw [k] at this; cases this
def ipI (f : Int → Int → Int) : TIp := fun x y H Q => ∃ i j, x = .int i ∧ y = .int j ∧ Q (.int (f i j)) H
theorem ip_add : PIp X .Add (ipI fun i j => i + j) := by
  intro pins s σ H x y v u Q I r1 r2 h
  obtain ⟨i, j, e1, e2, q⟩ := h
  subst e1; subst e2
  obtain ⟨t, rfl⟩ := r1
  obtain ⟨t', rfl⟩ := r2
  exact iadd_int ⟨.int _, H, I.tok _, ⟨_, rfl⟩, q⟩
end
section
variable {X : Cx} {pos : Pos}
def tWhile (c : TT) (tb : TS) : TS := fun D σ H => ∃ W : Nat → St → Hp → Prop, (∃ m, W m σ H) ∧ ∀ m σ H, W m σ H →
  c σ H fun b H1 => if b = true then ∃ N : St → Hp → Prop, (∀ σ' H', N σ' H' → ∃ m', m' < m ∧ W m' σ' H') ∧ tb { D with nx := N, ct := N, bk := D.nx } σ H1 else D.nx σ H1
theorem ps_while {c : Expr} {body : List Stmt} {tc : TT} {tb : TS} (hp : PassesOwn (model X.prog X.w) X.A X.env X.xe) (hc : PT X c tc) (hb : PSs X body tb) : PS X (.While c body [] pos) (tWhile tc tb) := by
  intro pins s σ H D I h
  obtain ⟨W, ⟨m0, w0⟩, turn⟩ := h
  refine wpAny_While (codeAny_whileLoop (fun n s' => ∃ σ' H', Inv X pins σ' H' s' ∧ W n σ' H') ?_ m0 ⟨σ, H, I, w0⟩)
  rintro n s1 ⟨σ1, H1, I1, w1⟩
  refine wpAny_passesOwn hp (thn (hc pins s1 σ1 H1 _ I1 (turn n σ1 H1 w1)) fun b s2 ⟨H2, I2, q2⟩ => ?_)
  cases b with
  | true =>
    obtain ⟨N, hN, q2⟩ := q2
    rw [if_pos rfl]
    refine wpAny_passesOwn hp (thn (hb pins s2 σ1 H2 _ I2 q2) fun f s3 q3 => ?_)
    cases f with
    | next =>
      obtain ⟨σ3, H3, I3, n3⟩ := q3
      obtain ⟨m', hm, w3⟩ := hN σ3 H3 n3
      exact ⟨m', hm, σ3, H3, I3, w3⟩
    | cont =>
      obtain ⟨σ3, H3, I3, n3⟩ := q3
      obtain ⟨m', hm, w3⟩ := hN σ3 H3 n3
      exact ⟨m', hm, σ3, H3, I3, w3⟩
    | brk => exact q3
    | ret v => exact q3
  | false =>
    rw [if_neg Bool.false_ne_true]
    exact wpAny_execs_nil ⟨σ1, H2, I2, q2⟩
end
structure It where
  go : Nat → Hp → Prop
  yld : Nat → Hp → V → Hp → Prop
  stop : Nat → Hp → Prop
def FpOk (X : Cx) (pins : List (Addr × Obj)) (H : Hp) (b : Addr) : Prop :=
  H b = none ∧ b ≠ X.env.locals ∧ b ∉ X.fs ∧ (b ∈ X.ex ∨ X.s₀.heap.objs.size ≤ b) ∧ (∀ x c, X.env.cells.lookup x = some c → c ≠ b) ∧ ∀ p ∈ X.pn ++ pins, p.1 ≠ b
theorem Inv.fpOk {X : Cx} {pins : List (Addr × Obj)} {σ : St} {H H' : Hp} {s : Shared} {b : Addr} (I : Inv X pins σ H s) (hb : s.heap.objs.size ≤ b) (hn : H' b = none) : FpOk X pins H' b := by
  refine ⟨hn, Nat.ne_of_gt (Nat.lt_of_lt_of_le I.lt hb), I.nofs hb, .inr (Nat.le_trans I.sz hb), fun x c e z => ?_, fun p hp z => ?_⟩
  · obtain ⟨v, q⟩ := I.cell x c e
    exact absurd (Nat.lt_of_lt_of_le q.lt (by rw [z]; exact hb)) (Nat.lt_irrefl _)
  · exact absurd (Nat.lt_of_lt_of_le (Heap.lt_size (I.pin p hp).1) (by rw [z]; exact hb)) (Nat.lt_irrefl _)
structure Turn (P : Program) (w : World) (K : PySem.W.Frag) (tg : Expr) (J : It) (fp : List Addr) (it : Addr) (tn : Nat → Heap → Prop) : Prop where
  mem : it ∈ fp
  obj : ∀ i h, tn i h → ∀ b ∈ fp, ∃ o, h.get? b = some o ∧ ∀ v, o.data ≠ .cell v
  keep : ∀ i h h', tn i h → (∀ b ∈ fp, ∀ o, h.get? b = some o → h'.get? b = some o) → tn i h'
  item : ∀ (X : Cx), X.prog = P → X.w = w → X.K = K → X.calm = true → ∀ (i : Nat) (pins : List (Addr × Obj)) (s : Shared) (σ : St) (H : Hp) (E : Value → Shared → Prop), Inv X pins σ H s → (∀ b ∈ fp, FpOk X pins H b) → tn i s.heap → J.go i H →
    wpAny (model P w) X.A (pyNext (.ref it)) (fun r s1 => ∃ u, r = some u ∧
      wpAny (model P w) X.A (letOwnedTupleGo tg (.ref it) u) (fun _ s2 => ∃ x H', Inv X pins σ H' s2 ∧ RelV x u ∧ J.yld i H x H' ∧ tn (i + 1) s2.heap ∧ ∀ b ∈ fp, H' b = none) E s1) E s
  done : ∀ (X : Cx), X.prog = P → X.w = w → X.K = K → X.calm = true → ∀ (i : Nat) (pins : List (Addr × Obj)) (s : Shared) (σ : St) (H : Hp) (E : Value → Shared → Prop), Inv X pins σ H s → (∀ b ∈ fp, FpOk X pins H b) → tn i s.heap → J.stop i H →
    wpAny (model P w) X.A (pyNext (.ref it)) (fun r s1 => r = none ∧ Inv X pins σ H s1) E s
  self : ∀ (A : Around) (i : Nat) (s : Shared) (Q : Value → Shared → Prop) (E : Value → Shared → Prop), tn i s.heap → Q (.ref it) s → wpAny (model P w) A (pyIter (.ref it)) Q E s
abbrev TI := St → Hp → (It → Hp → Prop) → Prop
def PIE (X : Cx) (pins : List (Addr × Obj)) (σ : St) (tg : Expr) (R : It → Hp → Prop) (itv : Value) (s2 : Shared) : Prop :=
  ∃ (it : Addr) (fp : List Addr) (tn : Nat → Heap → Prop) (J : It) (H' : Hp), itv = .ref it ∧ Inv X pins σ H' s2 ∧ Turn X.prog X.w X.K tg J fp it tn ∧ tn 0 s2.heap ∧ (∀ b ∈ fp, FpOk X pins H' b) ∧ R J H'
def PI (X : Cx) (tg iter : Expr) (wi : TI) : Prop :=
  ∀ (pins : List (Addr × Obj)) (s : Shared) (σ : St) (H : Hp) (R : It → Hp → Prop), Inv X pins σ H s → wi σ H R →
    wpAny (model X.prog X.w) X.A (eval iter X.env) (fun v s1 => wpAny (model X.prog X.w) X.A (pyIter v) (PIE X pins σ tg R) X.xe s1) X.xe s
theorem go_of {M : Model} {A : Around} {E : Value → Shared → Prop} {s : Shared} {tg : Expr} {it : Addr} {u : Value} {o : Obj} {n : String} {vs : Array Value} {Q : Unit → Shared → Prop} (ho : s.heap.get? it = some o) (hc : o.cls = .type n) (hd : o.data = .fields vs)
    (hn : ["enumerate", "zip", "dict_itemiterator", "dict_reverseitemiterator", "odict_iterator", "itertools.zip_longest", "itertools.pairwise"].contains n = false) (hQ : Q () s) : wpAny M A (letOwnedTupleGo tg (.ref it) u) Q E s := by
  unfold letOwnedTupleGo
  cases tg <;> first
    | exact wpAny_pure hQ
    | (cases u <;> first
        | exact wpAny_pure hQ
        | (refine wpAny_bind (wpAny_load ho ?_)
           rw [hc, hd]
           show wpAny M A (if (["enumerate", "zip", "dict_itemiterator", "dict_reverseitemiterator", "odict_iterator", "itertools.zip_longest", "itertools.pairwise"].contains n && vs[0]? == some (rawInt _)) = true then _ else _) Q E s
           rw [if_neg (by intro h; rw [hn, Bool.false_and] at h; cases h)]
           exact wpAny_pure hQ))
def Itl (K : PySem.W.Frag) (a : Addr) : It :=
  ⟨fun i H => ∃ xs x, SqL K H a xs ∧ xs[i]? = some x, fun i H x H' => H' = H ∧ ∀ xs, SqL K H a xs → xs[i]? = some x, fun i H => ∃ xs, SqL K H a xs ∧ xs.length ≤ i⟩
def Itt (K : PySem.W.Frag) (a : Addr) : It :=
  ⟨fun i H => ∃ xs x, SqT K H a xs ∧ xs[i]? = some x, fun i H x H' => H' = H ∧ ∀ xs, SqT K H a xs → xs[i]? = some x, fun i H => ∃ xs, SqT K H a xs ∧ xs.length ≤ i⟩
def Itr (lo : Int) (n : Nat) : It := ⟨fun i _ => i < n, fun i H x H' => H' = H ∧ x = .int (lo + i), fun i _ => n ≤ i⟩
theorem turn_list {P : Program} {w : World} {K : PySem.W.Frag} {tg : Expr} (a it : Addr) : Turn P w K tg (Itl K a) [it] it (fun i h => h.IsListIter it a i) where
  mem := by simp
  obj := fun i h st b hb => by
    have e : b = it := by simpa using hb
    subst e
    obtain ⟨o, e, c, d⟩ := st
    exact ⟨o, e, fun v z => by rw [d] at z; cases z⟩
  keep := fun i h h' st k => st.at fun o e => k it (by simp) o e
  item := by
    intro X hP hw hK hc i pins s σ H E I hf st hg
    subst hP hw hK
    obtain ⟨xs, x, hq, hx⟩ := hg
    obtain ⟨its, rv, p, hz⟩ := I.list hq
    obtain ⟨u, hu, ru⟩ := rv.get hx
    obtain ⟨f0, f1, f2, f3, f4, f5⟩ := hf it (by simp)
    refine wpAny_pyNext_list_item st p.isList (x := u) (by simpa using hu) fun h' st' sb => ?_
    have I1 : Inv X pins σ H { s with heap := h' } := I.turned (t' := s.toks) (fun b o hb e => (sb.2 b hb).trans e) f0 f1 f3 f4 f5
    obtain ⟨o, e, c, d⟩ := id st'
    exact ⟨u, rfl, go_of (s := { s with heap := h' }) e c d (by decide) ⟨x, H, I1, ru, ⟨rfl, fun ys hy => by rw [I.list_inj hy hq]; exact hx⟩, st', fun b hb => (hf b hb).1⟩⟩
  done := by
    intro X hP hw hK hc i pins s σ H E I hf st hg
    subst hP hw hK
    obtain ⟨xs, hq, hx⟩ := hg
    obtain ⟨its, rv, p, hz⟩ := I.list hq
    obtain ⟨f0, f1, f2, f3, f4, f5⟩ := hf it (by simp)
    have hl := rv.length
    exact wpAny_pyNext_list_end (I.ok.hd hc) st p.isList (by simp; omega) fun h' eb => ⟨rfl, I.turned (t' := s.toks) (fun b o hb e => eb b o hb e) f0 f1 f3 f4 f5⟩
  self := fun _ _ _ _ _ st h => wpAny_pyIter_listiter st h
theorem turn_tuple {P : Program} {w : World} {K : PySem.W.Frag} {tg : Expr} (a it : Addr) : Turn P w K tg (Itt K a) [it] it (fun i h => h.IsTupleIter it a i) where
  mem := by simp
  obj := fun i h st b hb => by
    have e : b = it := by simpa using hb
    subst e
    obtain ⟨o, e, c, d⟩ := st
    exact ⟨o, e, fun v z => by rw [d] at z; cases z⟩
  keep := fun i h h' st k => st.at fun o e => k it (by simp) o e
  item := by
    intro X hP hw hK hc i pins s σ H E I hf st hg
    subst hP hw hK
    obtain ⟨xs, x, hq, hx⟩ := hg
    obtain ⟨its, rv, p, hz⟩ := I.tuple hq
    obtain ⟨u, hu, ru⟩ := rv.get hx
    obtain ⟨f0, f1, f2, f3, f4, f5⟩ := hf it (by simp)
    refine wpAny_pyNext_tuple_item st (show s.heap.IsTuple a its.toArray from p) (x := u) (by simpa using hu) fun h' st' sb => ?_
    have I1 : Inv X pins σ H { s with heap := h' } := I.turned (t' := s.toks) (fun b o hb e => (sb.2 b hb).trans e) f0 f1 f3 f4 f5
    obtain ⟨o, e, c, d⟩ := id st'
    exact ⟨u, rfl, go_of (s := { s with heap := h' }) e c d (by decide) ⟨x, H, I1, ru, ⟨rfl, fun ys hy => by rw [I.tuple_inj hy hq]; exact hx⟩, st', fun b hb => (hf b hb).1⟩⟩
  done := by
    intro X hP hw hK hc i pins s σ H E I hf st hg
    subst hP hw hK
    obtain ⟨xs, hq, hx⟩ := hg
    obtain ⟨its, rv, p, hz⟩ := I.tuple hq
    obtain ⟨f0, f1, f2, f3, f4, f5⟩ := hf it (by simp)
    have hl := rv.length
    exact wpAny_pyNext_tuple_end (I.ok.hd hc) st (show s.heap.IsTuple a its.toArray from p) (by simp; omega) fun h' eb => ⟨rfl, I.turned (t' := s.toks) (fun b o hb e => eb b o hb e) f0 f1 f3 f4 f5⟩
  self := fun _ _ _ _ _ st h => wpAny_pyIter_tupleiter st h
theorem turn_range {P : Program} {w : World} {K : PySem.W.Frag} {tg : Expr} (it : Addr) (lo : Int) (n : Nat) : Turn P w K tg (Itr lo n) [it] it (fun i h => IsRangeIter h it (lo + (i : Nat) * 1) ((n : Int) - (i : Nat)) 1) where
  mem := by simp
  obj := fun i h st b hb => by
    have e : b = it := by simpa using hb
    subst e
    exact ⟨_, st, fun v z => by
      have z' : Data.fields _ = Data.cell v := z
      cases z'⟩
  keep := fun i h h' st k => k it (by simp) _ st
  item := by
    intro X hP hw hK hc i pins s σ H E I hf st hg
    subst hP hw hK
    obtain ⟨f0, f1, f2, f3, f4, f5⟩ := hf it (by simp)
    have W := Walks.range (prog := X.prog) (w := X.w) (I.ok.hd hc) it lo 1 n
    refine W.item i s _ _ hg st fun v h' tk hv st' kk => ?_
    obtain ⟨t, rfl⟩ := hv
    have I1 : Inv X pins σ H { s with heap := h', toks := tk } := I.turned (fun b o hb e => kk b o (by simpa using hb) e) f0 f1 f3 f4 f5
    refine ⟨_, rfl, go_of (s := { s with heap := h', toks := tk }) (n := "range_iterator") st' rfl rfl (by decide) ⟨.int (lo + i), H, I1, ⟨t, ?_⟩, ⟨rfl, rfl⟩, st', fun b hb => (hf b hb).1⟩⟩
    rw [Int.mul_one]
  done := by
    intro X hP hw hK hc i pins s σ H E I hf st hg
    subst hP hw hK
    obtain ⟨f0, f1, f2, f3, f4, f5⟩ := hf it (by simp)
    exact wpAny_pyNext_range_end (I.ok.hd hc) st (by have : n ≤ i := hg; omega) fun h' eb => ⟨rfl, I.turned (t' := s.toks) (fun b o hb e => eb b o hb e) f0 f1 f3 f4 f5⟩
  self := fun _ _ _ _ _ st h => wpAny_pyIter_rangeiter st h
end L2
namespace L2
open PySem PySem.Spec PyProof.Rows
section
variable {X : Cx} {tg : Expr}
def iList (K : PySem.W.Frag) (tl : TE) : TI := fun σ H R => tl σ H fun x H1 => ∃ a, x = .ref a ∧ (∃ xs, SqL K H1 a xs) ∧ R (Itl K a) H1
def iTup (K : PySem.W.Frag) (tl : TE) : TI := fun σ H R => tl σ H fun x H1 => ∃ a, x = .ref a ∧ (∃ xs, SqT K H1 a xs) ∧ R (Itt K a) H1
theorem pi_list {l : Expr} {tl : TE} (hl : PE X l tl) : PI X tg l (iList X.K tl) := by
  intro pins s σ H R I h
  refine thn (hl pins s σ H _ I h) fun v s1 ⟨x, H1, I1, r1, q1⟩ => ?_
  obtain ⟨a, e, ⟨xs, hq⟩, q⟩ := q1
  subst e
  cases r1
  obtain ⟨its, rv, p, hz⟩ := I1.list hq
  refine wpAny_pyIter_list p.isList ?_
  refine ⟨s1.heap.objs.size, [s1.heap.objs.size], _, _, H1, rfl, I1.kept (t' := s1.toks) fun b o e => Heap.get?_push_of_some _ e, turn_list a _, ⟨_, Heap.get?_push_size _ rfl, rfl, rfl⟩, fun b hb => ?_, q⟩
  have e : b = s1.heap.objs.size := by simpa using hb
  subst e
  exact I1.fpOk (Nat.le_refl _) (I1.hok.fresh (Nat.le_refl _))
theorem pi_tup {l : Expr} {tl : TE} (hl : PE X l tl) : PI X tg l (iTup X.K tl) := by
  intro pins s σ H R I h
  refine thn (hl pins s σ H _ I h) fun v s1 ⟨x, H1, I1, r1, q1⟩ => ?_
  obtain ⟨a, e, ⟨xs, hq⟩, q⟩ := q1
  subst e
  cases r1
  obtain ⟨its, rv, p, hz⟩ := I1.tuple hq
  refine wpAny_pyIter_tuple (show s1.heap.IsTuple a its.toArray from p) ?_
  refine ⟨s1.heap.objs.size, [s1.heap.objs.size], _, _, H1, rfl, I1.kept (t' := s1.toks) fun b o e => Heap.get?_push_of_some _ e, turn_tuple a _, ⟨_, Heap.get?_push_size _ rfl, rfl, rfl⟩, fun b hb => ?_, q⟩
  have e : b = s1.heap.objs.size := by simpa using hb
  subst e
  exact I1.fpOk (Nat.le_refl _) (I1.hok.fresh (Nat.le_refl _))
theorem range_it {pins : List (Addr × Obj)} {σ : St} {H : Hp} {s : Shared} {R : It → Hp → Prop} {E : Value → Shared → Prop} {lo hi : Int} {t u v : Tok} {tk : Nat} (I : Inv X pins σ H s) (h1 : -(2 ^ 62) ≤ lo) (h2 : lo < 2 ^ 62) (h3 : -(2 ^ 62) ≤ hi) (h4 : hi < 2 ^ 62)
    (q : R (Itr lo (hi - lo).toNat) H) : wpAny (model X.prog X.w) X.A (pyIter (.ref s.heap.objs.size)) (PIE X pins σ tg R) E { s with heap := s.heap.push { cls := .type "range", data := .fields #[.int lo t, .int hi u, .int 1 v] }, toks := tk } := by
  refine wpAny_pyIter_range (IsRange.new ..) (small_one h1 h2 h3 h4) ?_
  have I1 : Inv X pins σ H { s with heap := s.heap.push { cls := .type "range", data := .fields #[.int lo t, .int hi u, .int 1 v] }, toks := tk } := I.kept fun b o e => Heap.get?_push_of_some _ e
  refine ⟨(s.heap.push { cls := .type "range", data := .fields #[.int lo t, .int hi u, .int 1 v] }).objs.size, [(s.heap.push { cls := .type "range", data := .fields #[.int lo t, .int hi u, .int 1 v] }).objs.size], _, _, H, rfl,
    I1.kept (t' := tk) fun b o e => Heap.get?_push_of_some _ e, turn_range _ lo (hi - lo).toNat, ?_, fun b hb => ?_, q⟩
  · have e1 : lo + ((0 : Nat) : Int) * 1 = lo := by simp
    have e2 : (((hi - lo).toNat : Nat) : Int) - ((0 : Nat) : Int) = Builtin.Range.rangeSize lo hi 1 := by rw [rangeSize_one]; split <;> omega
    show IsRangeIter _ _ (lo + ((0 : Nat) : Int) * 1) ((((hi - lo).toNat : Nat) : Int) - ((0 : Nat) : Int)) 1
    rw [e1, e2]
    exact Heap.get?_push_size _ rfl
  · have e : b = (s.heap.push { cls := .type "range", data := .fields #[.int lo t, .int hi u, .int 1 v] }).objs.size := by simpa using hb
    subst e
    exact I1.fpOk (Nat.le_refl _) (I1.hok.fresh (Nat.le_refl _))
def iRng1 (ta : TA) : TI := fun σ H R => ta σ H fun vs H1 => ∃ j : Int, vs = [.int j] ∧ -(2 ^ 62) ≤ j ∧ j < 2 ^ 62 ∧ R (Itr 0 j.toNat) H1
theorem pi_range1 {a : Expr} {ta : TA} {p pos : Pos} (hg : Gl X "range") (hm : X.mg "range" = none) (ha : PA X [a] ta) (hs : starEach [a] X.env = [(false, eval a X.env)] := by rfl) : PI X tg (.Call (.Name "range" p) [a] [] pos) (iRng1 ta) := by
  intro pins s σ H R I h
  refine Call_ (ld_blt I hg hm boot_range (PyProof.Rows.callWith_type1 (thn (ha pos pins s σ H _ I h) fun us s1 ⟨vs, H1, I1, r1, q1⟩ => ?_) hs rfl))
  obtain ⟨j, e, q1, q2, q⟩ := q1
  subst e
  cases r1 with
  | cons r rr =>
    cases rr
    obtain ⟨t, rfl⟩ := r
    exact call_range_1 (range_it I1 (by omega) (by omega) q1 q2 (by simpa using q))
def tFor (wi : TI) (g : TG) (tb : TS) : TS := fun D σ H => wi σ H fun J H1 => ∃ W : Nat → Nat → St → Hp → Prop, (∃ m, W 0 m σ H1) ∧ ∀ i m σ H, W i m σ H →
  (J.stop i H ∧ D.nx σ H) ∨ (J.go i H ∧ ∃ N : St → Hp → Prop, (∀ σ' H', N σ' H' → ∃ m', m' < m ∧ W (i + 1) m' σ' H') ∧ ∀ x H', J.yld i H x H' → g x σ H' fun σ2 H2 => tb { D with nx := N, ct := N, bk := D.nx } σ2 H2)
def pinsAt (fp : List Addr) (h : Heap) : List (Addr × Obj) := fp.filterMap fun b => (h.get? b).map fun o => (b, o)
theorem mem_pinsAt {fp : List Addr} {h : Heap} {b : Addr} {o : Obj} (hb : b ∈ fp) (e : h.get? b = some o) : (b, o) ∈ pinsAt fp h := List.mem_filterMap.mpr ⟨b, hb, by rw [e]; rfl⟩
theorem of_pinsAt {fp : List Addr} {h : Heap} {p : Addr × Obj} (hp : p ∈ pinsAt fp h) : p.1 ∈ fp ∧ h.get? p.1 = some p.2 := by
  obtain ⟨b, hb, e⟩ := List.mem_filterMap.mp hp
  cases q : h.get? b with
  | none => rw [q] at e; cases e
  | some o =>
    rw [q] at e
    have e' : (b, o) = p := Option.some.inj e
    subst e'
    exact ⟨hb, q⟩
theorem Inv.pinned {pins : List (Addr × Obj)} {σ : St} {H : Hp} {s : Shared} {fp : List Addr} (I : Inv X pins σ H s) (hf : ∀ b ∈ fp, FpOk X pins H b) (ho : ∀ b ∈ fp, ∃ o, s.heap.get? b = some o ∧ ∀ v, o.data ≠ .cell v) : Inv X (pins ++ pinsAt fp s.heap) σ H s :=
  I.pins_of fun p hp => (List.mem_append.mp hp).elim (fun z => I.pin p (List.mem_append_right _ z)) fun z => by
    obtain ⟨hb, e⟩ := of_pinsAt z
    obtain ⟨f0, f1, f2, _⟩ := hf p.1 hb
    obtain ⟨o, e', d⟩ := ho p.1 hb
    rw [e] at e'; cases e'
    exact ⟨e, f0, f1, f2, d⟩
theorem Inv.unpinned {pins pl : List (Addr × Obj)} {σ : St} {H : Hp} {s : Shared} (I : Inv X (pins ++ pl) σ H s) : Inv X pins σ H s := I.pins_of fun p hp => I.pin p (List.mem_append_right _ (List.mem_append_left _ hp))
theorem ps_for {iter : Expr} {body : List Stmt} {wi : TI} {g : TG} {tb : TS} {pos : Pos} (hp : PassesOwn (model X.prog X.w) X.A X.env X.xe) (hc : X.calm = true) (hi : PI X tg iter wi) (hg : PG X tg g) (hb : PSs X body tb)
    (hs : ∀ x, foldedSetIterable iter X.env x = pure x := by intro _; rfl) : PS X (.For tg iter body [] pos) (tFor wi g tb) := by
  intro pins s σ H D I h
  refine wpAny_For (thn (hi pins s σ H _ I h) fun v s1 h1 => thn h1 fun itv s2 h2 => ?_) hs
  obtain ⟨it, fp, tn, J, H2, e, I2, T, st2, f2, W, ⟨m0, w0⟩, turn⟩ := h2
  subst e
  -- what stays true of the iterator's objects through the loop
  have stat : ∀ {H' : Hp}, (∀ b ∈ fp, H' b = none) → ∀ b ∈ fp, FpOk X pins H' b := fun hn b hb => ⟨hn b hb, (f2 b hb).2⟩
  refine codeAny_forLoop_any (fun n s' => ∃ i σ' H', Inv X pins σ' H' s' ∧ tn i s'.heap ∧ (∀ b ∈ fp, H' b = none) ∧ W i n σ' H') ?_ m0 ⟨0, σ, H2, I2, st2, fun b hb => (f2 b hb).1, w0⟩
  rintro n s3 ⟨i, σ3, H3, I3, st3, fr3, w3⟩
  rcases turn i n σ3 H3 w3 with ⟨stop, qn⟩ | ⟨go, N, hN, step⟩
  · refine wpAny_passesOwn hp (thn (T.done X rfl rfl rfl hc i pins s3 σ3 H3 X.xe I3 (stat fr3) st3 stop) fun r s4 ⟨hr, I4⟩ => ?_)
    subst hr
    exact wpAny_execs_nil ⟨σ3, H3, I4, qn⟩
  · refine wpAny_passesOwn hp (thn (T.item X rfl rfl rfl hc i pins s3 σ3 H3 X.xe I3 (stat fr3) st3 go) fun r s4 ⟨u, hr, h4⟩ => ?_)
    subst hr
    refine wpAny_passesOwn hp (thn h4 fun _ s5 ⟨x, H5, I5, r5, y5, st5, fr5⟩ => ?_)
    have I5' := I5.pinned (stat fr5) (T.obj _ _ st5)
    refine wpAny_passesOwn hp (thn (hg _ s5 σ3 H5 x u _ I5' r5 (step x H5 y5)) fun _ s6 ⟨σ6, H6, I6, q6⟩ => ?_)
    refine wpAny_passesOwn hp (thn (hb _ s6 σ6 H6 _ I6 q6) fun f s7 q7 => ?_)
    have again : ∀ {σ7 : St} {H7 : Hp}, Inv X (pins ++ pinsAt fp s5.heap) σ7 H7 s7 → N σ7 H7 → ∃ m, m < n ∧ ∃ i σ' H', Inv X pins σ' H' s7 ∧ tn i s7.heap ∧ (∀ b ∈ fp, H' b = none) ∧ W i m σ' H' := fun {σ7 H7} I7 n7 => by
      obtain ⟨m', hm, w7⟩ := hN σ7 H7 n7
      refine ⟨m', hm, i + 1, σ7, H7, I7.unpinned, T.keep _ _ _ st5 fun b hb o e => (I7.pin (b, o) (List.mem_append_right _ (List.mem_append_right _ (mem_pinsAt hb e)))).1, fun b hb => ?_, w7⟩
      obtain ⟨o, e, d⟩ := T.obj _ _ st5 b hb
      exact (I7.pin (b, o) (List.mem_append_right _ (List.mem_append_right _ (mem_pinsAt hb e)))).2.1
    cases f with
    | next => obtain ⟨σ7, H7, I7, n7⟩ := q7; exact again I7 n7
    | cont => obtain ⟨σ7, H7, I7, n7⟩ := q7; exact again I7 n7
    | brk => obtain ⟨σ7, H7, I7, q7⟩ := q7; exact ⟨σ7, H7, I7.unpinned, q7⟩
    | ret v => obtain ⟨x7, σ7, H7, I7, r7, q7⟩ := q7; exact ⟨x7, σ7, H7, I7.unpinned, r7, q7⟩
end
theorem for_list {K : PySem.W.Frag} {a : Addr} {xs : List V} {g : TG} {tb : TS} {D : Ends} {σ : St} {H : Hp} (Pv : Nat → St → Hp → Prop) (h0 : Pv 0 σ H) (hl : ∀ i σ H, i ≤ xs.length → Pv i σ H → SqL K H a xs)
    (hs : ∀ i x σ H, xs[i]? = some x → Pv i σ H → g x σ H fun σ2 H2 => tb { D with nx := Pv (i + 1), ct := Pv (i + 1), bk := D.nx } σ2 H2) (hd : ∀ σ H, Pv xs.length σ H → D.nx σ H) :
    ∃ W : Nat → Nat → St → Hp → Prop, (∃ m, W 0 m σ H) ∧ ∀ i m σ H, W i m σ H →
      ((Itl K a).stop i H ∧ D.nx σ H) ∨ ((Itl K a).go i H ∧ ∃ N : St → Hp → Prop, (∀ σ' H', N σ' H' → ∃ m', m' < m ∧ W (i + 1) m' σ' H') ∧ ∀ x H', (Itl K a).yld i H x H' → g x σ H' fun σ2 H2 => tb { D with nx := N, ct := N, bk := D.nx } σ2 H2) := by
  refine ⟨fun i m σ H => m = xs.length - i ∧ i ≤ xs.length ∧ Pv i σ H, ⟨xs.length, by simp, Nat.zero_le _, h0⟩, ?_⟩
  rintro i m σ H ⟨rfl, hi, p⟩
  have q := hl i σ H hi p
  by_cases hlt : i < xs.length
  · refine .inr ⟨⟨xs, xs[i], q, by simp [hlt]⟩, Pv (i + 1), fun σ' H' p' => ⟨xs.length - (i + 1), by omega, rfl, hlt, p'⟩, fun x H' y => ?_⟩
    obtain ⟨e, y⟩ := y
    subst e
    exact hs i x σ _ (y xs q) p
  · have e : i = xs.length := by omega
    subst e
    exact .inl ⟨⟨xs, q, Nat.le_refl _⟩, hd σ H p⟩
theorem for_range {lo : Int} {n : Nat} {g : TG} {tb : TS} {D : Ends} {σ : St} {H : Hp} (Pv : Nat → St → Hp → Prop) (h0 : Pv 0 σ H)
    (hs : ∀ i σ H, i < n → Pv i σ H → g (.int (lo + i)) σ H fun σ2 H2 => tb { D with nx := Pv (i + 1), ct := Pv (i + 1), bk := D.nx } σ2 H2) (hd : ∀ σ H, Pv n σ H → D.nx σ H) :
    ∃ W : Nat → Nat → St → Hp → Prop, (∃ m, W 0 m σ H) ∧ ∀ i m σ H, W i m σ H →
      ((Itr lo n).stop i H ∧ D.nx σ H) ∨ ((Itr lo n).go i H ∧ ∃ N : St → Hp → Prop, (∀ σ' H', N σ' H' → ∃ m', m' < m ∧ W (i + 1) m' σ' H') ∧ ∀ x H', (Itr lo n).yld i H x H' → g x σ H' fun σ2 H2 => tb { D with nx := N, ct := N, bk := D.nx } σ2 H2) := by
  refine ⟨fun i m σ H => m = n - i ∧ i ≤ n ∧ Pv i σ H, ⟨n, by simp, Nat.zero_le _, h0⟩, ?_⟩
  rintro i m σ H ⟨rfl, hi, p⟩
  by_cases hlt : i < n
  · refine .inr ⟨hlt, Pv (i + 1), fun σ' H' p' => ⟨n - (i + 1), by omega, rfl, hlt, p'⟩, fun x H' y => ?_⟩
    obtain ⟨e, y⟩ := y
    subst e y
    exact hs i σ _ hlt p
  · have e : i = n := by omega
    subst e
    exact .inl ⟨Nat.le_refl _, hd σ H p⟩
end L2
namespace L2
open PySem PySem.Spec PyProof.Rows
abbrev R2 := V → V → Hp → VK → Prop
def OpR (X : Cx) (f : Value → Value → Sem Value) (r : R2) : Prop :=
  ∀ (pins : List (Addr × Obj)) (s : Shared) (σ : St) (H : Hp) (x y : V) (v u : Value) (Q : VK), Inv X pins σ H s → RelV x v → RelV y u → r x y H Q →
    wpAny (model X.prog X.w) X.A (f v u) (EP X pins σ Q) X.xe s
def UnR (X : Cx) (f : Value → Sem Value) (r : V → Hp → VK → Prop) : Prop :=
  ∀ (pins : List (Addr × Obj)) (s : Shared) (σ : St) (H : Hp) (x : V) (v : Value) (Q : VK), Inv X pins σ H s → RelV x v → r x H Q →
    wpAny (model X.prog X.w) X.A (f v) (EP X pins σ Q) X.xe s
def CallR (X : Cx) (f : Value) (r : List V → Hp → VK → Prop) : Prop :=
  ∀ (pins : List (Addr × Obj)) (s : Shared) (σ : St) (H : Hp) (xs : List V) (us : List Value) (Q : VK), Inv X pins σ H s → Vals xs us → r xs H Q →
    wpAny (model X.prog X.w) X.A (call f us) (EP X pins σ Q) X.xe s
def TruR (X : Cx) (r : V → Hp → (Bool → Hp → Prop) → Prop) : Prop :=
  ∀ (pins : List (Addr × Obj)) (s : Shared) (σ : St) (H : Hp) (x : V) (v : Value) (Q : Bool → Hp → Prop), Inv X pins σ H s → RelV x v → r x H Q →
    wpAny (model X.prog X.w) X.A (truthy v) (TP X pins σ Q) X.xe s
def tOp (r : R2) (ta tb : TE) : TE := fun σ H Q => ta σ H fun x H1 => tb σ H1 fun y H2 => r x y H2 Q
def tUn (r : V → Hp → VK → Prop) (ta : TE) : TE := fun σ H Q => ta σ H fun x H1 => r x H1 Q
def rI (C : Int → Int → Prop) (g : Int → Int → V) : R2 := fun x y H Q => ∃ i j, x = .int i ∧ y = .int j ∧ C i j ∧ Q (g i j) H
def rI0 (g : Int → Int → V) : R2 := fun x y H Q => ∃ i j, x = .int i ∧ y = .int j ∧ Q (g i j) H
def rU (g : Int → V) : V → Hp → VK → Prop := fun x H Q => ∃ i, x = .int i ∧ Q (g i) H
section
variable {X : Cx} {a b c : Expr} {ta tb tc : TE} {pos : Pos}
theorem binT (ha : PE X a ta) (hb : PE X b tb) {pins : List (Addr × Obj)} {s : Shared} {σ : St} {H : Hp} {R : V → V → Hp → Prop} (I : Inv X pins σ H s)
    (h : ta σ H fun x H1 => tb σ H1 fun y H2 => R x y H2) {Q : Value → Shared → Prop} {f : Value → Value → Sem Value}
    (hf : ∀ v u s2 x y H2, Inv X pins σ H2 s2 → RelV x v → RelV y u → R x y H2 → wpAny (model X.prog X.w) X.A (f v u) Q X.xe s2) :
    wpAny (model X.prog X.w) X.A (eval a X.env) (fun v s₁ => wpAny (model X.prog X.w) X.A (eval b X.env) (fun u s₂ => wpAny (model X.prog X.w) X.A (f v u) Q X.xe s₂) X.xe s₁) X.xe s := by
  refine thn (ha pins s σ H _ I h) fun v s1 ⟨x, H1, I1, r1, q1⟩ => ?_
  refine thn (hb pins s1 σ H1 _ I1 q1) fun u s2 ⟨y, H2, I2, r2, q2⟩ => ?_
  exact hf v u s2 x y H2 I2 r1 r2 q2
theorem pe_op {op : Operator} {r : R2} (ho : OpR X (binaryOp op) r) (ha : PE X a ta) (hb : PE X b tb) : PE X (.BinOp a op b pos) (tOp r ta tb) := by
  intro pins s σ H Q I h
  exact wpAny_BinOp (binT ha hb I h fun v u s2 x y H2 I2 rx ry q => ho pins s2 σ H2 x y v u Q I2 rx ry q)
theorem pe_un {op : UnaryOp} {r : V → Hp → VK → Prop} (ho : UnR X (unaryOp op) r) (ha : PE X a ta) : PE X (.UnaryOp op a pos) (tUn r ta) := by
  intro pins s σ H Q I h
  exact UnaryOp_ (thn (ha pins s σ H _ I h) fun v s1 ⟨x, H1, I1, r1, q1⟩ => ho pins s1 σ H1 x v Q I1 r1 q1)
theorem opI {f : Value → Value → Sem Value} {C : Int → Int → Prop} {g : Int → Int → Int}
    (rule : ∀ (i j : Int) (t u : Tok) (s : Shared) (Q : Value → Shared → Prop) (E : Value → Shared → Prop), C i j → Q (.int (g i j) s.toks) { s with toks := s.toks + 1 } → wpAny (model X.prog X.w) X.A (f (.int i t) (.int j u)) Q E s) :
    OpR X f (rI C fun i j => .int (g i j)) := by
  intro pins s σ H x y v u Q I rx ry h
  obtain ⟨i, j, rfl, rfl, hc, q⟩ := h
  obtain ⟨t, rfl⟩ := rx
  obtain ⟨t', rfl⟩ := ry
  exact rule i j t t' s _ _ hc ⟨.int (g i j), H, I.tok _, ⟨_, rfl⟩, q⟩
theorem opI0 {f : Value → Value → Sem Value} {g : Int → Int → Int}
    (rule : ∀ (i j : Int) (t u : Tok) (s : Shared) (Q : Value → Shared → Prop) (E : Value → Shared → Prop), Q (.int (g i j) s.toks) { s with toks := s.toks + 1 } → wpAny (model X.prog X.w) X.A (f (.int i t) (.int j u)) Q E s) :
    OpR X f (rI0 fun i j => .int (g i j)) := by
  intro pins s σ H x y v u Q I rx ry h
  obtain ⟨i, j, rfl, rfl, q⟩ := h
  obtain ⟨t, rfl⟩ := rx
  obtain ⟨t', rfl⟩ := ry
  exact rule i j t t' s _ _ ⟨.int (g i j), H, I.tok _, ⟨_, rfl⟩, q⟩
theorem opB0 {f : Value → Value → Sem Value} {g : Int → Int → Bool}
    (rule : ∀ (i j : Int) (t u : Tok) (s : Shared) (Q : Value → Shared → Prop) (E : Value → Shared → Prop), Q (.bool (g i j)) s → wpAny (model X.prog X.w) X.A (f (.int i t) (.int j u)) Q E s) :
    OpR X f (rI0 fun i j => .bl (g i j)) := by
  intro pins s σ H x y v u Q I rx ry h
  obtain ⟨i, j, rfl, rfl, q⟩ := h
  obtain ⟨t, rfl⟩ := rx
  obtain ⟨t', rfl⟩ := ry
  exact rule i j t t' s _ _ ⟨.bl (g i j), H, I, rfl, q⟩
def CDiv (i j : Int) : Prop := 0 < j ∧ j < 1073741824
def CPow (i j : Int) : Prop := 0 ≤ j ∧ j ≤ 1000000 ∧ i.natAbs < 2 ^ 64
def CMul (i j : Int) : Prop := (-(2 ^ 64) < i ∧ i < 2 ^ 64) ∨ (-(2 ^ 64) < j ∧ j < 2 ^ 64)
theorem CMul.ok {i j : Int} (h : CMul i j) : IntMulOk i j := by
  rcases h with ⟨h1, h2⟩ | ⟨h1, h2⟩
  · exact .of_left (intBits_le_64 h1 h2)
  · exact .of_right (intBits_le_64 h1 h2)
theorem op_add : OpR X (binaryOp .Add) (rI0 fun i j => .int (i + j)) := opI0 fun _ _ _ _ _ _ _ q => add_int q
theorem op_sub : OpR X (binaryOp .Sub) (rI0 fun i j => .int (i - j)) := opI0 fun _ _ _ _ _ _ _ q => sub_int q
theorem op_mul : OpR X (binaryOp .Mult) (rI CMul fun i j => .int (i * j)) := opI fun _ _ _ _ _ _ _ hc q => mul_int q hc.ok
theorem op_fdiv : OpR X (binaryOp .FloorDiv) (rI CDiv fun i j => .int (i / j)) := opI fun i j _ _ _ _ _ hc q => by
  have h1 : (0 : Int) < j := hc.1
  have h2 : j < 1073741824 := hc.2
  exact floordiv_int (by omega) (by rw [Int.fdiv_eq_ediv_of_nonneg i (by omega)]; exact q) (.inl (PyProof.noPylong_small (by omega)))
theorem op_mod : OpR X (binaryOp .Mod) (rI (fun _ j => 0 < j) fun i j => .int (i % j)) := opI fun i j _ _ _ _ _ hc q => by
  have h1 : (0 : Int) < j := hc
  exact mod_int' (by omega) (by rw [Int.fmod_eq_emod_of_nonneg i (by omega)]; exact q)
theorem op_pow : OpR X (binaryOp .Pow) (rI CPow fun i j => .int (i ^ j.toNat)) := opI fun _ _ _ _ _ _ _ hc q => pow_int_small hc.1 hc.2.1 hc.2.2 q
theorem unI {f : Value → Sem Value} {g : Int → Int}
    (rule : ∀ (i : Int) (t : Tok) (s : Shared) (Q : Value → Shared → Prop) (E : Value → Shared → Prop), Q (.int (g i) s.toks) { s with toks := s.toks + 1 } → wpAny (model X.prog X.w) X.A (f (.int i t)) Q E s) :
    UnR X f (rU fun i => .int (g i)) := by
  intro pins s σ H x v Q I rx h
  obtain ⟨i, rfl, q⟩ := h
  obtain ⟨t, rfl⟩ := rx
  exact rule i t s _ _ ⟨.int (g i), H, I.tok _, ⟨_, rfl⟩, q⟩
theorem un_neg : UnR X (unaryOp .USub) (rU fun i => .int (-i)) := unI fun _ _ _ _ _ q => neg_int q
end
def scal : V → V → Bool
  | .non, .non => true | .non, .int _ => true | .int _, .non => true | .non, .bl _ => true | .bl _, .non => true | .non, .str _ => true | .str _, .non => true
  | .int _, .int _ => true | .bl _, .bl _ => true | .str _, .str _ => true | .byt _, .byt _ => true
  | .int _, .str _ => true | .str _, .int _ => true | .bl _, .str _ => true | .str _, .bl _ => true
  | _, _ => false
def rEq : R2 := fun x y H Q => scal x y = true ∧ Q (.bl (decide (x = y))) H
def rNe : R2 := fun x y H Q => scal x y = true ∧ Q (.bl (!decide (x = y))) H
theorem dec_int {i j : Int} : decide (V.int i = V.int j) = (i == j) := by
  rw [Bool.eq_iff_iff]
  simp
theorem dec_bl {i j : Bool} : decide (V.bl i = V.bl j) = (i == j) := by
  rw [Bool.eq_iff_iff]
  simp
theorem dec_str {i j : Str} : decide (V.str i = V.str j) = (i == j) := by
  rw [Bool.eq_iff_iff]
  simp
theorem dec_byt {i j : Array UInt8} : decide (V.byt i = V.byt j) = (i.toList == j.toList) := by
  rw [Bool.eq_iff_iff]
  cases i
  cases j
  simp
section
variable {X : Cx} {a b c : Expr} {ta tb tc : TE} {pos : Pos}
theorem fin_bl {pins : List (Addr × Obj)} {σ : St} {H : Hp} {s : Shared} {Q : VK} {k k' : Bool} (I : Inv X pins σ H s) (q : Q (.bl k) H) (e : k = k') : EP X pins σ Q (.bool k') s := by
  subst e
  exact ⟨.bl k, H, I, rfl, q⟩
theorem op_eq : OpR X (compareOp .Eq) rEq := by
  intro pins s σ H x y v u Q I rx ry h
  obtain ⟨hs, q⟩ := h
  cases x with
  | non =>
    cases rx
    cases y with
    | non => cases ry; exact PySem.EqNone.eq_none_none (fin_bl I q (by simp))
    | bl j => cases ry; exact PySem.EqNone.eq_none_bool (fin_bl I q (by simp))
    | int j => obtain ⟨t', rfl⟩ := ry; exact PySem.EqNone.eq_none_int (fin_bl I q (by simp))
    | str j => obtain ⟨t', rfl⟩ := ry; exact PySem.EqNone.eq_none_str (fin_bl I q (by simp))
    | _ => exact absurd (show false = true from hs) Bool.false_ne_true
  | bl i =>
    cases rx
    cases y with
    | non => cases ry; exact PySem.EqNone.eq_bool_none (fin_bl I q (by simp))
    | bl j => cases ry; exact eq_bool (fin_bl I q dec_bl)
    | str j => obtain ⟨t', rfl⟩ := ry; exact PySem.EqMixed.eq_bool_str (fin_bl I q (by simp))
    | _ => exact absurd (show false = true from hs) Bool.false_ne_true
  | int i =>
    obtain ⟨t, rfl⟩ := rx
    cases y with
    | non => cases ry; exact PySem.EqNone.eq_int_none (fin_bl I q (by simp))
    | int j => obtain ⟨t', rfl⟩ := ry; exact eq_int (fin_bl I q dec_int)
    | str j => obtain ⟨t', rfl⟩ := ry; exact PySem.EqMixed.eq_int_str (fin_bl I q (by simp))
    | _ => exact absurd (show false = true from hs) Bool.false_ne_true
  | str i =>
    obtain ⟨t, rfl⟩ := rx
    cases y with
    | non => cases ry; exact PySem.EqNone.eq_str_none (fin_bl I q (by simp))
    | bl j => cases ry; exact PySem.EqMixed.eq_str_bool (fin_bl I q (by simp))
    | int j => obtain ⟨t', rfl⟩ := ry; exact PySem.EqMixed.eq_str_int (fin_bl I q (by simp))
    | str j => obtain ⟨t', rfl⟩ := ry; exact eq_str (fin_bl I q dec_str)
    | _ => exact absurd (show false = true from hs) Bool.false_ne_true
  | byt i =>
    obtain ⟨t, rfl⟩ := rx
    cases y with
    | byt j => obtain ⟨t', rfl⟩ := ry; exact PySem.W.eq_bytes (fin_bl I q dec_byt)
    | _ => exact absurd (show false = true from hs) Bool.false_ne_true
  | _ => cases y <;> exact absurd (show false = true from hs) Bool.false_ne_true
theorem op_ne : OpR X (compareOp .NotEq) rNe := by
  intro pins s σ H x y v u Q I rx ry h
  obtain ⟨hs, q⟩ := h
  cases x with
  | non =>
    cases rx
    cases y with
    | non => cases ry; exact PySem.EqNone.ne_none_none (fin_bl I q (by simp))
    | bl j => cases ry; exact PySem.EqNone.ne_none_bool (fin_bl I q (by simp))
    | int j => obtain ⟨t', rfl⟩ := ry; exact PySem.EqNone.ne_none_int (fin_bl I q (by simp))
    | str j => obtain ⟨t', rfl⟩ := ry; exact PySem.EqNone.ne_none_str (fin_bl I q (by simp))
    | _ => exact absurd (show false = true from hs) Bool.false_ne_true
  | bl i =>
    cases rx
    cases y with
    | non => cases ry; exact PySem.EqNone.ne_bool_none (fin_bl I q (by simp))
    | bl j => cases ry; exact ne_bool (fin_bl I q (congrArg not dec_bl))
    | str j => obtain ⟨t', rfl⟩ := ry; exact PySem.EqMixed.ne_bool_str (fin_bl I q (by simp))
    | _ => exact absurd (show false = true from hs) Bool.false_ne_true
  | int i =>
    obtain ⟨t, rfl⟩ := rx
    cases y with
    | non => cases ry; exact PySem.EqNone.ne_int_none (fin_bl I q (by simp))
    | int j => obtain ⟨t', rfl⟩ := ry; exact ne_int (fin_bl I q (congrArg not dec_int))
    | str j => obtain ⟨t', rfl⟩ := ry; exact PySem.EqMixed.ne_int_str (fin_bl I q (by simp))
    | _ => exact absurd (show false = true from hs) Bool.false_ne_true
  | str i =>
    obtain ⟨t, rfl⟩ := rx
    cases y with
    | non => cases ry; exact PySem.EqNone.ne_str_none (fin_bl I q (by simp))
    | bl j => cases ry; exact PySem.EqMixed.ne_str_bool (fin_bl I q (by simp))
    | int j => obtain ⟨t', rfl⟩ := ry; exact PySem.EqMixed.ne_str_int (fin_bl I q (by simp))
    | str j => obtain ⟨t', rfl⟩ := ry; exact ne_str (fin_bl I q (congrArg not dec_str))
    | _ => exact absurd (show false = true from hs) Bool.false_ne_true
  | byt i =>
    obtain ⟨t, rfl⟩ := rx
    cases y with
    | byt j => obtain ⟨t', rfl⟩ := ry; exact PySem.W.ne_bytes (fin_bl I q (congrArg not dec_byt))
    | _ => exact absurd (show false = true from hs) Bool.false_ne_true
  | _ => cases y <;> exact absurd (show false = true from hs) Bool.false_ne_true
theorem op_lt : OpR X (compareOp .Lt) (rI0 fun i j => .bl (decide (i < j))) := opB0 fun _ _ _ _ _ _ _ q => lt_int q
theorem op_le : OpR X (compareOp .LtE) (rI0 fun i j => .bl (decide (i ≤ j))) := opB0 fun _ _ _ _ _ _ _ q => le_int q
theorem op_gt : OpR X (compareOp .Gt) (rI0 fun i j => .bl (decide (j < i))) := opB0 fun _ _ _ _ _ _ _ q => gt_int q
theorem op_isN : OpR X (compareOp .Is) (fun x y H Q => y = .non ∧ Q (.bl (decide (x = .non))) H) := by
  intro pins s σ H x y v u Q I rx ry h
  obtain ⟨rfl, q⟩ := h
  cases ry
  refine is_none_gen (fin_bl I q ?_)
  cases x <;> first
    | (cases rx; rfl)
    | (obtain ⟨t, rfl⟩ := rx; rfl)
theorem nomark (b : Expr) {op : CmpOp} (h : op ≠ .In := by decide) (h2 : op ≠ .NotIn := by decide) : behindInMarks op b = false := by
  have e1 : (op == CmpOp.In) = false := by cases op <;> first | rfl | exact absurd rfl h
  have e2 : (op == CmpOp.NotIn) = false := by cases op <;> first | rfl | exact absurd rfl h2
  cases b <;> simp [behindInMarks, e1, e2]
theorem pe_cmpR {op : CmpOp} {r : R2} (ho : OpR X (compareOp op) r) (ha : PE X a ta) (hb : PE X b tb) (hm : behindInMarks op b = false) : PE X (.Compare a [op] [b] pos) (tOp r ta tb) := by
  intro pins s σ H Q I h
  exact wpAny_Compare1 (binT ha hb I h fun v u s2 x y H2 I2 rx ry q => ho pins s2 σ H2 x y v u Q I2 rx ry q) hm
def tTest (t : TE) : TT := fun σ H Q => t σ H fun x H' => ∃ k, x = .bl k ∧ Q k H'
theorem pt_cmpR {op : CmpOp} {r : R2} (ho : OpR X (compareOp op) r) (ha : PE X a ta) (hb : PE X b tb) (hm : behindInMarks op b = false) : PT X (.Compare a [op] [b] pos) (tTest (tOp r ta tb)) := by
  intro pins s σ H Q I h
  refine wpAny_isTrue_Compare1 (thn (ha pins s σ H _ I h) fun v s1 ⟨x, H1, I1, r1, q1⟩ => thn (hb pins s1 σ H1 _ I1 q1) fun u s2 ⟨y, H2, I2, r2, q2⟩ =>
    thn (ho pins s2 σ H2 x y v u _ I2 r1 r2 q2) fun c s3 ⟨z, H3, I3, r3, k, e, q3⟩ => ?_) hm
  subst e
  cases r3
  exact wpAny_truthy_bool ⟨H3, I3, q3⟩
def tChain (r r' : R2) (ta tb tc : TE) : TE := fun σ H Q => ta σ H fun x H1 => tb σ H1 fun y H2 => r x y H2 fun z H3 => ∃ k, z = .bl k ∧
  (if k = true then tc σ H3 fun w' H4 => r' y w' H4 Q else Q (.bl false) H3)
theorem pe_chain {op op' : CmpOp} {r r' : R2} (ho : OpR X (compareOp op) r) (ho' : OpR X (compareOp op') r') (ha : PE X a ta) (hb : PE X b tb) (hc : PE X c tc)
    (hm : lastMarks [op, op'] [b, c] = false := by with_unfolding_all rfl) : PE X (.Compare a [op, op'] [b, c] pos) (tChain r r' ta tb tc) := by
  intro pins s σ H Q I h
  refine Compare_chain (thn (ha pins s σ H _ I h) fun v s1 ⟨x, H1, I1, r1, q1⟩ => chain_link (thn (hb pins s1 σ H1 _ I1 q1) fun u s2 ⟨y, H2, I2, r2, q2⟩ =>
    thn (ho pins s2 σ H2 x y v u _ I2 r1 r2 q2) fun d s3 ⟨z, H3, I3, r3, k, e, q3⟩ => ?_)) hm
  subst e
  cases r3
  refine wpAny_truthy_bool ?_
  cases k with
  | false => exact ite_ff ⟨.bl false, H3, I3, rfl, q3⟩
  | true => exact ite_tt (chain_last (thn (hc pins s3 σ H3 _ I3 q3) fun w' s4 ⟨z', H4, I4, r4, q4⟩ => ho' pins s4 σ H4 y z' u w' Q I4 r2 r4 q4))
theorem pt_chain {op op' : CmpOp} {r r' : R2} (ho : OpR X (compareOp op) r) (ho' : OpR X (compareOp op') r') (ha : PE X a ta) (hb : PE X b tb) (hc : PE X c tc)
    (hm : lastMarks [op, op'] [b, c] = false := by with_unfolding_all rfl) : PT X (.Compare a [op, op'] [b, c] pos) (tTest (tChain r r' ta tb tc)) := by
  intro pins s σ H Q I h
  refine isTrue_chain (thn (ha pins s σ H _ I h) fun v s1 ⟨x, H1, I1, r1, q1⟩ => test_link (thn (hb pins s1 σ H1 _ I1 q1) fun u s2 ⟨y, H2, I2, r2, q2⟩ =>
    thn (ho pins s2 σ H2 x y v u _ I2 r1 r2 q2) fun d s3 ⟨z, H3, I3, r3, k, e, q3⟩ => ?_)) hm
  subst e
  cases r3
  refine wpAny_truthy_bool ?_
  cases k with
  | false =>
    obtain ⟨k', e', q'⟩ := q3
    cases e'
    exact ite_ff ⟨H3, I3, q'⟩
  | true =>
    refine ite_tt (test_last (thn (hc pins s3 σ H3 _ I3 q3) fun w' s4 ⟨z', H4, I4, r4, q4⟩ => thn (ho' pins s4 σ H4 y z' u w' _ I4 r2 r4 q4) fun d' s5 ⟨z2, H5, I5, r5, k2, e2, q5⟩ => ?_))
    subst e2
    cases r5
    exact wpAny_truthy_bool ⟨H5, I5, q5⟩
def TruV (K : PySem.W.Frag) (x : V) (H : Hp) (k : Bool) : Prop :=
  match x with
  | .non => k = false
  | .bl b => k = b
  | .int i => k = (i != 0)
  | .str y => y.length ≤ sizeLine ∧ k = ((y.length : Int) != 0)
  | .byt y => y.size ≤ sizeLine ∧ k = ((y.size : Int) != 0)
  | .ref p => (∃ xs, SqL K H p xs ∧ k = !xs.isEmpty) ∨ (∃ xs, SqT K H p xs ∧ k = !xs.isEmpty) ∨ ∃ kvs, H p = some (.dK kvs) ∧ k = !kvs.isEmpty
  | _ => False
theorem isEmpty_kv {κ : Type} {kvs : List (κ × V)} {vs : List (κ × Value)} (r : KV kvs vs) : (!vs.isEmpty) = !kvs.isEmpty := by
  cases r <;> rfl
theorem isEmpty_of {xs : List V} {its : List Value} (r : Vals xs its) : (!its.toArray.isEmpty) = !xs.isEmpty := by
  cases r <;> simp
theorem line63 : (sizeLine : Nat) < 2 ^ 63 := by rw [sizeLine_eq]; decide
theorem tru_ok : TruR X (fun x H Q => ∃ k, TruV X.K x H k ∧ Q k H) := by
  intro pins s σ H x v Q I rx h
  obtain ⟨k, e, q⟩ := h
  have hl := line63
  have hs : sizeLine = 16777216 := sizeLine_eq
  cases x with
  | non =>
    cases rx
    have e' : k = false := e
    subst e'
    exact truthy_none ⟨H, I, q⟩
  | bl b =>
    cases rx
    have e' : k = b := e
    subst e'
    exact wpAny_truthy_bool ⟨H, I, q⟩
  | int i =>
    obtain ⟨t, rfl⟩ := rx
    have e' : k = (i != 0) := e
    subst e'
    exact PySem.P.truthy_int ⟨H, I, q⟩
  | str y =>
    obtain ⟨t, rfl⟩ := rx
    obtain ⟨hy, e'⟩ : y.length ≤ sizeLine ∧ k = ((y.length : Int) != 0) := e
    subst e'
    exact PySem.P.truthy_str (by omega) ⟨H, I.tok _, q⟩
  | byt y =>
    obtain ⟨t, rfl⟩ := rx
    obtain ⟨hy, e'⟩ : y.size ≤ sizeLine ∧ k = ((y.size : Int) != 0) := e
    subst e'
    exact PySem.W.truthy_bytes (by omega) ⟨H, I.tok _, q⟩
  | ref p =>
    cases rx
    have e' : (∃ xs, SqL X.K H p xs ∧ k = !xs.isEmpty) ∨ (∃ xs, SqT X.K H p xs ∧ k = !xs.isEmpty) ∨ ∃ kvs, H p = some (.dK kvs) ∧ k = !kvs.isEmpty := e
    rcases e' with ⟨xs, hx, e'⟩ | ⟨xs, hx, e'⟩ | ⟨kvs, hx, e'⟩
    · subst e'
      obtain ⟨its, r, pl, hz⟩ := I.list hx
      have hlen := r.length
      exact wpAny_truthy_list pl.isList (by simp only [List.size_toArray]; omega) ⟨H, I.tok _, by rw [isEmpty_of r]; exact q⟩
    · subst e'
      obtain ⟨its, r, pl, hz⟩ := I.tuple hx
      have hlen := r.length
      exact truthy_tuple pl (by simp only [List.size_toArray]; omega) ⟨H, I.tok _, by rw [isEmpty_of r]; exact q⟩
    · subst e'
      obtain ⟨hz, hS, vs, r, m⟩ : kvs.length ≤ sizeLine ∧ (p == sysModules) = false ∧ ∃ vs, KV kvs vs ∧ s.heap.DictOf (mixKind X.prog X.w) p vs := I.hok p _ hx
      have hlen : kvs.length = vs.length := Paired.length r
      exact wpAny_truthy_dict hS m (by omega) ⟨H, I.tok _, by rw [isEmpty_kv r]; exact q⟩
  | _ => exact (show False from e).elim
theorem pt_truth (ha : PE X a ta) (he : ∀ whole, isTrue a X.env whole = (do let v ← whole; standAt a.pos; holding [v] (truthy v))) :
    PT X a (fun σ H Q => ta σ H fun x H' => ∃ k, TruV X.K x H' k ∧ Q k H') := by
  intro pins s σ H Q I h
  exact isTrue_plain (thn (ha pins s σ H _ I h) fun v s1 ⟨x, H1, I1, r1, q1⟩ => tru_ok pins s1 σ H1 x v Q I1 r1 q1) (he _)
theorem op_add_str : OpR X (binaryOp .Add) (fun x y H Q => ∃ i j, x = .str i ∧ y = .str j ∧ i.length + j.length ≤ sizeLine ∧ Q (.str (i ++ j)) H) := by
  intro pins s σ H x y v u Q I rx ry h
  obtain ⟨i, j, rfl, rfl, hz, q⟩ := h
  obtain ⟨t, rfl⟩ := rx
  obtain ⟨t', rfl⟩ := ry
  exact add_str (fun t' tk => ⟨.str (i ++ j), H, I.tok _, ⟨_, rfl⟩, q⟩) hz
theorem vals1 {x : V} {us : List Value} (r : Vals [x] us) : ∃ u, us = [u] ∧ RelV x u := by
  cases r with
  | cons r1 r2 => cases r2; exact ⟨_, rfl, r1⟩
theorem vals2 {x y : V} {us : List Value} (r : Vals [x, y] us) : ∃ u w', us = [u, w'] ∧ RelV x u ∧ RelV y w' := by
  cases r with
  | cons r1 r2 =>
    cases r2 with
    | cons r3 r4 => cases r4; exact ⟨_, _, rfl, r1, r3⟩
theorem call_max2 (hc : X.calm = true) : CallR X (.builtin "max") (fun xs H Q => ∃ i j, xs = [.int i, .int j] ∧ Q (.int (if j > i then j else i)) H) := by
  intro pins s σ H xs us Q I r h
  obtain ⟨i, j, rfl, q⟩ := h
  obtain ⟨u, w', rfl, ⟨t, rfl⟩, ⟨t', rfl⟩⟩ := vals2 r
  refine max_two_ints (I.ok.hd hc) fun h' tk k => ⟨_, H, I.kept k, ?_, q⟩
  by_cases hj : j > i
  · rw [if_pos hj, if_pos hj]; exact ⟨_, rfl⟩
  · rw [if_neg hj, if_neg hj]; exact ⟨_, rfl⟩
theorem call_ord : CallR X (.builtin "ord") (fun xs H Q => ∃ x, xs = [.str x] ∧ x.length = 1 ∧ Q (.int (x.cps.getD 0 0 : Nat)) H) := by
  intro pins s σ H xs us Q I r h
  obtain ⟨x, rfl, hz, q⟩ := h
  obtain ⟨u, rfl, t, rfl⟩ := vals1 r
  exact ord_of_one hz ⟨.int _, H, I.tok _, ⟨_, rfl⟩, q⟩
end
end L2
namespace L2
open PySem PySem.Spec PyProof.Rows
structure ObjM (h : Heap) (x dx C : Addr) (mA : Str → Option Value) : Prop where
  obj : h.get? x = some (PySem.W.instObj C dx)
  ns : h.Ns1 dx mA
  ne : dx ≠ x
theorem lookIn_ns {h : Heap} {dx : Addr} {mA : Str → Option Value} (n : h.Ns1 dx mA) : ∃ od, h.get? dx = some od ∧ ∀ name, PySem.W.lookIn name od = some (mA name) := by
  obtain ⟨o, es, ep, ho, hd, hk, _, hm⟩ := n
  refine ⟨o, ho, fun name => ?_⟩
  have e := hm name
  unfold nsFind findBy at e
  rw [← Array.find?_toList] at e
  unfold PySem.W.lookIn
  rw [hd]
  dsimp only
  split
  · rename_i y q
    rw [q] at e
    exact congrArg some e
  · rename_i q
    rw [q] at e
    have a : es.toList.any (·.refKey) = false := by
      rw [List.any_eq_false]
      intro y hy
      obtain ⟨z, t, hkey⟩ := hk y (Array.mem_toList_iff.mp hy)
      simp [DictEntry.refKey, hkey]
    have a' : ¬ es.toList.any (·.refKey) = true := by rw [a]; exact Bool.false_ne_true
    rw [if_neg a']
    exact congrArg some e
theorem ObjM.look {h : Heap} {x dx C : Addr} {mA : Str → Option Value} (I : ObjM h x dx C mA) : ∃ od, PySem.W.InstAt h x (PySem.W.instObj C dx) C (some od) ∧ ∀ name, PySem.W.lookIn name od = some (mA name) :=
  let ⟨od, ho, hl⟩ := lookIn_ns I.ns
  ⟨od, ⟨I.obj, rfl, rfl, ho⟩, hl⟩
section
variable {P : Program} {w : World} {H H' : Hp} {h h' : Heap} {a C dx : Addr} {fs fs' : List (Str × V)}
theorem ins_get (hok : HOk P w H h) (e : H a = some (.ins C dx fs)) : ∃ mA, ObjM h a dx C mA ∧ (∀ f, RelO (fs.lookup f) (mA f)) ∧ PySem.Within mA (fs.map (·.1)) ∧ fs.length ≤ 1000 ∧ H dx = some (.own a) := by
  obtain ⟨d, z, ne, ob, mA, n, r, q⟩ := (show ObjOk P w H h a (.ins C dx fs) from hok a _ e)
  exact ⟨mA, ⟨ob, n, ne⟩, r, q, z, d⟩
end
structure Cls (K : PySem.W.Frag) (C : Addr) : Prop where
  pg : PySem.W.plainGet K C Str.empty = true
  hd : PySem.W.hasDictIn K C = true
  po : PySem.W.plainOver K C = true
  sa : PySem.W.findIn K (.ref C) "__setattr__" = some (some (.builtin "object.__setattr__"))
theorem Cls.get {K : PySem.W.Frag} {C : Addr} (c : Cls K C) (f : Str) : PySem.W.plainGet K C f = true := c.pg
section
variable {X : Cx} {pins : List (Addr × Obj)} {σ : St} {H : Hp} {s : Shared} {A : Around} {E : Value → Shared → Prop} {Q : Value → Shared → Prop} {c : Value} {b : Bool}
inductive TyOf (K : PySem.W.Frag) (H : Hp) : V → Value → Prop where
  | non : TyOf K H .non (.type "NoneType")
  | bl (x : Bool) : TyOf K H (.bl x) (.type "bool")
  | int (i : Int) : TyOf K H (.int i) (.type "int")
  | str (x : Str) : TyOf K H (.str x) (.type "str")
  | flt (x : UInt64) : TyOf K H (.flt x) (.type "float")
  | lst {a : Addr} {xs : List V} (e : H a = some (.lst xs)) : TyOf K H (.ref a) (.type "list")
  | frz {a : Addr} {o : Obj} {xs : List V} (e : H a = some (.frz o (.lst xs))) : TyOf K H (.ref a) (.type "list")
  | tup {a : Addr} {xs : List V} (e : H a = some (.tup xs)) : TyOf K H (.ref a) (.type "tuple")
  | dK {a : Addr} {kvs : List (Key × V)} (e : H a = some (.dK kvs)) : TyOf K H (.ref a) (.type "dict")
  | dT {a : Addr} {kvs : List (List Key × V)} (e : H a = some (.dT kvs)) : TyOf K H (.ref a) (.type "dict")
  | ins {a C dx : Addr} {fs : List (Str × V)} (e : H a = some (.ins C dx fs)) (cl : Cls K C) (ha : PySem.W.findIn K (.ref C) "__class__" = some (some (.builtin "object.__class__")))
      (hn : PySem.W.specialIn K (.builtin "object.__class__") "__get__" = some (some (.builtin "getset_descriptor.__get__"))) (htk : PySem.W.takesIn K (.builtin "object.__class__") = some true)
      (hm : PySem.W.mroIn K C (.type "object") = some true) : TyOf K H (.ref a) (.ref C)
end
end L2
namespace L2
open PySem PySem.Spec PyProof.Rows
structure Room (k : Nat) (A : Around) : Prop where
  hd : A.handled = none
  dp : A.depth + 3 * k + 5 < recursionLimit
  un : A.units + 16 * k + 200 < cLine
theorem Room.mono {j k : Nat} {A : Around} (r : Room k A) (h : j ≤ k) : Room j A := ⟨r.hd, by have := r.dp; omega, by have := r.un; omega⟩
theorem Room.deeper {k : Nat} {A : Around} (r : Room (k + 1) A) (env : Env) : Room k (A.deeper env) :=
  ⟨r.hd, by have := r.dp; show A.depth + 1 + 3 * k + 5 < _; omega, by have := r.un; show A.units + 3 + 16 * k + 200 < _; omega⟩
theorem Room.depth {k : Nat} {A : Around} (r : Room k A) : A.depth < recursionLimit := by have := r.dp; omega
theorem Room.units {k : Nat} {A : Around} (r : Room k A) : A.units + 64 < cLine := by have := r.un; omega
def tNil : TA := fun _ H Q => Q [] H
def tCons (ta : TE) (tr : TA) : TA := fun σ H Q => ta σ H fun x H1 => tr σ H1 fun xs H2 => Q (x :: xs) H2
section
variable {X : Cx} {e : Expr} {es : List Expr} {te : TE} {t : TA} {pos : Pos}
theorem pa_nil : PA X [] tNil := fun _ _ _ _ H Q I h => Calls.spliced_nil ⟨[], H, I, .nil, h⟩
theorem pa_cons (ha : PE X e te) (hr : PA X es t) (hs : starEach (e :: es) X.env = (false, eval e X.env) :: starEach es X.env := by rfl) : PA X (e :: es) (tCons te t) := by
  intro pos pins s σ H Q I h
  rw [hs]
  show wpAny _ _ (spliced ((false, eval e X.env) :: backTo pos (starEach es X.env))) _ _ s
  refine Calls.spliced_cons (thn (ha pins s σ H _ I h) fun u s1 ⟨x, H1, I1, r1, q1⟩ => ?_)
  exact thn (hr pos pins s1 σ H1 _ I1 q1) fun us s2 ⟨xs, H2, I2, r2, q2⟩ => ⟨x :: xs, H2, I2, .cons r1 r2, q2⟩
def tTup (t : TA) : TE := fun σ H Q => t σ H fun xs H1 => xs.length ≤ sizeLine ∧ ∀ p, H1 p = none → Q (.ref p) (upd H1 p (.tup xs))
def tLst (t : TA) : TE := fun σ H Q => t σ H fun xs H1 => xs.length ≤ sizeLine ∧ ∀ p, H1 p = none → Q (.ref p) (upd H1 p (.lst xs))
theorem pe_tup {x1} (h : PA X es t) : PE X (.Tuple es x1 pos) (tTup t) := by
  intro pins s σ H Q I hq
  refine wpAny_Tuple_spliced (thn (h pos pins s σ H _ I hq) fun us s1 ⟨xs, H1, I1, r, z, q⟩ => ⟨by rw [← r.length]; exact z, ?_⟩)
  have hf : H1 s1.heap.objs.size = none := I1.hok.fresh (Nat.le_refl _)
  refine ⟨.ref s1.heap.objs.size, upd H1 s1.heap.objs.size (.tup xs), I1.laid (t' := s1.toks) (fun b u e => Heap.get?_push_of_some _ e) (Nat.le_refl _) ?_, rfl, q _ hf⟩
  exact ⟨z, us, r, ⟨_, Heap.get?_push_size _ rfl, rfl, _, rfl⟩⟩
theorem pe_lst (h : PA X es t) : PE X (.List es pos) (tLst t) := by
  intro pins s σ H Q I hq
  refine wpAny_List_spliced (thn (h pos pins s σ H _ I hq) fun us s1 ⟨xs, H1, I1, r, z, q⟩ => ⟨by rw [← r.length]; exact z, ?_⟩)
  have hf : H1 s1.heap.objs.size = none := I1.hok.fresh (Nat.le_refl _)
  refine ⟨.ref s1.heap.objs.size, upd H1 s1.heap.objs.size (.lst xs), I1.laid (t' := s1.toks) (fun b u e => Heap.get?_push_of_some _ e) (Nat.le_refl _) ?_, rfl, q _ hf⟩
  exact ⟨z, us, 0, r, Heap.get?_push_size _ rfl⟩
end
abbrev Sp := List V → Hp → VK → XK → Prop
abbrev CXT := List Env → Hp → Shared → XK → Value → Shared → Prop
structure Env0 (P : Program) (w : World) (K : PySem.W.Frag) (mg : Str → Option Value) (base : Heap) (A : Around) (outer : List Env) (s : Shared) (H : Hp) : Prop where
  frames : A.frames = some outer
  mod : Mod K mg base
  bs : ∀ b o, base.get? b = some o → s.heap.get? b = some o ∧ H b = none
  bsz : base.objs.size ≤ s.heap.objs.size
  funs : s.heap.FunFrames base outer
  frf : ∀ b ∈ frs outer, H b = none
  hok : HOk P w H s.heap
  bare : AllBare s.gens
def CE (outer : List Env) (P : Program) (w : World) (H : Hp) (s : Shared) (Q : VK) (u : Value) (s' : Shared) : Prop :=
  ∃ v H', s'.os = s.os ∧ AllBare s'.gens ∧ Un (frs outer) [] H H' s.heap s'.heap ∧ HOk P w H' s'.heap ∧ RelV v u ∧ Q v H'
def CR (CX : CXT) (outer : List Env) (P : Program) (w : World) (H : Hp) (s : Shared) (Q : VK) (E : XK) (r : Result) (s' : Shared) : Prop :=
  match r with
  | .ok (.ret u) => CE outer P w H s Q u s'
  | .ok _ => False
  | .error e => CX outer H s E e s'
structure FnOk (P : Program) (w : World) (K : PySem.W.Frag) (mg : Str → Option Value) (base : Heap) (CX : CXT) (k : Nat) (f : Addr) (fd : FuncData) (ps : List Str) (sp : Sp) : Prop where
  len : ∀ vs H Q E, sp vs H Q E → vs.length = ps.length
  run : ∀ (A : Around) (outer : List Env) (s : Shared) (H : Hp) (args : Args) (us : List Value) (vs : List V) (Q : VK) (E : XK), Room k A → Env0 P w K mg base A outer s H → BindsTo s fd args (ps.zip us) → Vals vs us → sp vs H Q E →
    codeAny (model P w) A (.call (.ref f) args) (CR CX outer P w H s Q E) s
section
variable {X : Cx} {pins : List (Addr × Obj)} {σ : St} {H : Hp} {s s' : Shared}
theorem Inv.env0 (I : Inv X pins σ H s) : Env0 X.prog X.w X.K X.mg X.base X.A X.stack s H :=
  ⟨I.ok.frames, I.ok.mod, I.bs, Nat.le_trans I.ok.bsz I.sz, I.stack, I.stkFree, I.hok, I.bare⟩
theorem Inv.after {Q : VK} {u : Value} (I : Inv X pins σ H s) (h : CE X.stack X.prog X.w H s Q u s') : EP X pins σ Q u s' := by
  obtain ⟨v, H', os, bare, un, hok, r, q⟩ := h
  obtain ⟨hh, g, d, t, os'⟩ := s'
  obtain rfl : os' = s.os := os
  exact ⟨v, H', I.call (h' := hh) (g' := g) (d' := d) (t' := t) (ch := []) un hok bare (fun b z => absurd z (by simp)), r, q⟩
end
def tCall (sp : Sp) (dvs : List V) (E : XK) (t : TA) : TE := fun σ H Q => t σ H fun vs H1 => sp (vs ++ dvs) H1 Q E
def Binds (K : PySem.W.Frag) (fd : FuncData) (ps : List Str) (ds : List Value) : Prop :=
  ∀ (s : Shared) (us : List Value), K.In s.heap → (us ++ ds).length = ps.length → BindsTo s fd ⟨us, []⟩ (ps.zip (us ++ ds))
theorem Binds.all {K : PySem.W.Frag} {fd : FuncData} {ps : List Str} (h : ∀ us : List Value, us.length = ps.length → bindArgs fd ⟨us, []⟩ = pure (ps.zip us)) : Binds K fd ps [] := fun s us _ hl => by
  rw [List.append_nil] at hl ⊢
  exact .of_eq (h us hl)
def Passes (CX : CXT) (X : Cx) (E : XK) : Prop := ∀ (pins : List (Addr × Obj)) (σ : St) (H : Hp) (s : Shared) (e : Value) (s' : Shared), Inv X pins σ H s → CX X.stack H s E e s' → X.xe e s'
section
variable {X : Cx} {CX : CXT} {k : Nat} {f C : Addr} {fd : FuncData} {ps : List Str} {sp : Sp} {dvs : List V} {ds : List Value} {E : XK} {x m : Str} {p pos apos : Pos} {e o : Expr} {es : List Expr} {ta : TE} {t : TA}
theorem run_fn {pins : List (Addr × Obj)} {σ : St} {H : Hp} {s : Shared} {Q : VK} {us : List Value} {vs : List V} (F : FnOk X.prog X.w X.K X.mg X.base CX k f fd ps sp) (hr : Room k X.A) (hb : Binds X.K fd ps ds) (hd : Vals dvs ds) (hx : Passes CX X E)
    (I : Inv X pins σ H s) (r : Vals vs us) (h : sp (vs ++ dvs) H Q E) : wpAny (model X.prog X.w) X.A (call (.ref f) us) (EP X pins σ Q) X.xe s := by
  have r2 : Vals (vs ++ dvs) (us ++ ds) := r.append hd
  have hl : (us ++ ds).length = ps.length := by rw [← r2.length]; exact F.len _ _ _ _ h
  refine wpAny_call (codeAny_mono (F.run X.A X.stack s H ⟨us, []⟩ (us ++ ds) (vs ++ dvs) Q E hr I.env0 (hb s us I.kIn hl) r2 h) fun r s' hq => ?_)
  cases r with
  | error e => exact hx pins σ H s e s' I hq
  | ok fl =>
    cases fl with
    | ret u => exact I.after hq
    | next => exact False.elim hq
    | brk => exact False.elim hq
    | cont => exact False.elim hq
theorem pe_call (F : FnOk X.prog X.w X.K X.mg X.base CX k f fd ps sp) (hr : Room k X.A) (hg : Gl X x) (hm : X.mg x = some (.ref f)) (hk : PySem.W.keepIn X.K (.ref f) = true) (hb : Binds X.K fd ps ds) (hd : Vals dvs ds) (hx : Passes CX X E)
    (ha : PA X (e :: es) t) (hdb : (x == ("__debug__" : Str)) = false := by decide) (he : starEach (e :: es) X.env = (false, eval e X.env) :: starEach es X.env := by rfl) (hpl : (backTo pos (starEach es X.env)).any (·.1) = false := by rfl) :
    PE X (.Call (.Name x p) (e :: es) [] pos) (tCall sp dvs E t) := by
  intro pins s σ H Q I h
  refine wpAny_Call_Name_kw (ld_glob I hg hm ?_ hdb)
  refine PySem.W.callWith_K (h₀ := X.base) I.ok.mod.kin hk (thn (ha pos pins s σ H _ I h) fun us s1 ⟨vs, H1, I1, r, q⟩ => ⟨I1.kIn, ?_⟩) he hpl
  exact run_fn F hr hb hd hx I1 r q
end
def PK (X : Cx) (kws : List Keyword) (t : TA) : Prop :=
  ∀ (pos : Pos) (pins : List (Addr × Obj)) (s : Shared) (σ : St) (H : Hp) (Q : List V → Hp → Prop), Inv X pins σ H s → t σ H Q → wpAny (model X.prog X.w) X.A (evalAll ((backToKw pos (keywordEach kws X.env)).map (·.2))) (AP X pins σ Q) X.xe s
section
variable {X : Cx} {CX : CXT} {k : Nat} {f C : Addr} {fd : FuncData} {ps ks : List Str} {sp : Sp} {E : XK} {x m : Str} {p pos apos kpos : Pos} {e o : Expr} {es : List Expr} {kws : List Keyword} {te ta : TE} {t tk : TA} {nm : Option Str}
theorem pk_nil : PK X [] tNil := fun _ _ _ _ H Q I h => wpAny_evalAll_nil ⟨[], H, I, .nil, h⟩
theorem pk_cons (ha : PE X e te) (hr : PK X kws t) : PK X (⟨nm, e, kpos⟩ :: kws) (tCons te t) := by
  intro pos pins s σ H Q I h
  show wpAny _ _ (evalAll ((do let v ← eval e X.env; standAt pos; pure v) :: (backToKw pos (keywordEach kws X.env)).map (·.2))) _ _ s
  refine wpAny_evalAll_cons (wpAny_bind (thn (ha pins s σ H _ I h) fun u s1 ⟨x, H1, I1, r1, q1⟩ => wpAny_bind (wpAny_standAt (wpAny_pure ?_))))
  exact thn (hr pos pins s1 σ H1 _ I1 q1) fun us s2 ⟨xs, H2, I2, r2, q2⟩ => ⟨x :: xs, H2, I2, .cons r1 r2, q2⟩
end
structure FnScope (N P : List Str) (sc : Scope) : Prop where
  kind : sc.kind = .function
  co : sc.isCoroutine = false
  gen : sc.isGenerator = false
  nd : N.Nodup
  pre : N.take P.length = P
  par : ∀ x ∈ P, sc.names.lookup x = some .local ∨ sc.names.lookup x = some .cell
  nofree : ∀ y ∈ sc.names, y.2 ≠ .free
theorem bindL_out {kindOf : Str → Option NameKind} {x : Str} : ∀ {binds : List (Str × Value)} {m : Str → Option Value}, (∀ v, (x, v) ∉ binds) → bindL kindOf binds m x = m x
  | [], _, _ => rfl
  | (n, v) :: r, m, h => by
    unfold bindL
    rw [bindL_out fun w hw => h w (List.mem_cons_of_mem _ hw)]
    split
    · have : x ≠ n := by rintro rfl; exact h v List.mem_cons_self
      simp [this]
    · rfl
theorem bindC_out {kindOf : Str → Option NameKind} {x : Str} : ∀ {binds : List (Str × Value)} {m : Str → Option Value}, (∀ v, (x, v) ∉ binds) → bindC kindOf binds m x = m x
  | [], _, _ => rfl
  | (n, v) :: r, m, h => by
    unfold bindC
    rw [bindC_out fun w hw => h w (List.mem_cons_of_mem _ hw)]
    split
    · rfl
    · have : x ≠ n := by rintro rfl; exact h v List.mem_cons_self
      simp [this]
theorem bindL_get {kindOf : Str → Option NameKind} {x : Str} {v : Value} : ∀ {P : List Str} {vs : List Value} {i : Nat} {m : Str → Option Value}, P.Nodup → P[i]? = some x → vs[i]? = some v → kindOf x = some .local →
    bindL kindOf (P.zip vs) m x = some v
  | [], _, _, _, _, h, _, _ => by simp at h
  | _ :: _, [], _, _, _, _, h, _ => by simp at h
  | p :: P, w :: vs, 0, m, nd, h1, h2, hk => by
    simp at h1 h2; subst h1; subst h2
    show bindL kindOf ((p, w) :: P.zip vs) m p = _
    unfold bindL
    rw [bindL_out fun v hv => (List.nodup_cons.mp nd).1 (List.of_mem_zip hv).1, if_pos hk]
    simp
  | p :: P, w :: vs, i + 1, m, nd, h1, h2, hk => by
    show bindL kindOf ((p, w) :: P.zip vs) m x = _
    unfold bindL
    exact bindL_get (i := i) (List.nodup_cons.mp nd).2 (by simpa using h1) (by simpa using h2) hk
theorem bindC_get {kindOf : Str → Option NameKind} {x : Str} {v : Value} : ∀ {P : List Str} {vs : List Value} {i : Nat} {m : Str → Option Value}, P.Nodup → P[i]? = some x → vs[i]? = some v → kindOf x ≠ some .local →
    bindC kindOf (P.zip vs) m x = some v
  | [], _, _, _, _, h, _, _ => by simp at h
  | _ :: _, [], _, _, _, _, h, _ => by simp at h
  | p :: P, w :: vs, 0, m, nd, h1, h2, hk => by
    simp at h1 h2; subst h1; subst h2
    show bindC kindOf ((p, w) :: P.zip vs) m p = _
    unfold bindC
    rw [bindC_out fun v hv => (List.nodup_cons.mp nd).1 (List.of_mem_zip hv).1, if_neg hk]
    simp
  | p :: P, w :: vs, i + 1, m, nd, h1, h2, hk => by
    show bindC kindOf ((p, w) :: P.zip vs) m x = _
    unfold bindC
    exact bindC_get (i := i) (List.nodup_cons.mp nd).2 (by simpa using h1) (by simpa using h2) hk
def start (N : List Str) (vs : List V) : St := vs.map some ++ List.replicate (N.length - vs.length) none
def cxOf (CX : CXT) (P : Program) (w : World) (K : PySem.W.Frag) (mg : Str → Option Value) (base : Heap) (N : List Str) (qual : Str) (scope : Scope) (f : Addr) (cd : Value) (A : Around) (outer : List Env) (s : Shared) (H : Hp) (E : XK) : Cx where
  prog := P
  w := w
  K := K
  mg := mg
  base := base
  A := A.deeper (envOfC qual scope s.heap.objs.size f cd)
  N := N
  s₀ := s
  H₀ := H
  env := envOfC qual scope s.heap.objs.size f cd
  outer := outer
  stack := envOfC qual scope s.heap.objs.size f cd :: outer
  ex := []
  calm := true
  fn := fun _ => true
  pn := []
  xe := fun e s' => wpAny (model P w) (A.deeper (envOfC qual scope s.heap.objs.size f cd)) (leaving (envOfC qual scope s.heap.objs.size f cd) e) (fun _ s'' => CX outer H s E e s'') (fun e' s'' => CX outer H s E e' s'') s'
theorem cell_has {sc : Scope} {n : Nat} {x : Str} (h : sc.names.lookup x = some .cell) : ∃ c, (cellsFrom n sc.names []).lookup x = some c := by
  have q := PySem.W.cellsFrom_some sc.names n [] (.inl h)
  exact Option.isSome_iff_exists.mp q
theorem inv_start {CX : CXT} {P : Program} {w : World} {K : PySem.W.Frag} {mg : Str → Option Value} {base : Heap} {N ps : List Str} {qual : Str} {scope : Scope} {f : Addr} {cd : Value} {A : Around} {outer : List Env} {s s1 : Shared} {H : Hp} {E : XK} {us : List Value} {vs : List V}
    (S : FnScope N ps scope) (hd : A.handled = none) (e0 : Env0 P w K mg base A outer s H) (hl : vs.length = ps.length) (r : Vals vs us)
    (x : InCallC s s.heap.objs.size (bindL (envOfC qual scope s.heap.objs.size f cd).kindOf (ps.zip us) fun _ => none) (cellsFrom (s.heap.objs.size + 1) scope.names []) (bindC (envOfC qual scope s.heap.objs.size f cd).kindOf (ps.zip us) fun _ => none) s1) :
    Inv (cxOf CX P w K mg base N qual scope f cd A outer s H E) [] (start N vs) H s1 := by
  have hpl : ps.length ≤ N.length := by have := congrArg List.length S.pre; rw [List.length_take] at this; omega
  obtain ⟨h1, tk, rfl, hk⟩ := x.done
  have noA : ∀ b : Addr, b ∉ (cxOf CX P w K mg base N qual scope f cd A outer s H E).ex := fun b z => absurd (show b ∈ ([] : List Addr) from z) (by simp)
  refine ⟨⟨e0.mod, S.kind, rfl, rfl, Nat.le_refl _, fun y z c h1 h2 => ?_, fun y hy => ?_, fun y c _ h => ?_, fun _ => hd, Around.frames_deeper e0.frames, .inr ⟨rfl, rfl⟩, fun b z => absurd z (noA b), e0.bs, e0.bsz, fun b _ _ => noA b, fun b z => absurd z (noA b), e0.funs, e0.frf⟩,
    rfl, e0.bare, Un.kept hk, ⟨_, x.toInCall.ns, fun i y v h1 h2 h3 => ?_⟩, fun y c h => ⟨_, x.cell y c h⟩, e0.hok.fresh (Nat.le_refl _), fun y c h => ?_, fun p hp => absurd (show p ∈ ([] : List (Addr × Obj)) from hp) (by simp), e0.hok.kept hk, ?_⟩
  · exact name_of_addr x.apart (PySem.mem_of_lookup h1) (PySem.mem_of_lookup h2)
  · have hy : scope.names.lookup y = some .cell ∨ scope.names.lookup y = some .free := hy
    rcases hy with hy | hy
    · exact cell_has hy
    · exact absurd rfl (S.nofree _ (PySem.mem_of_lookup hy))
  · exact Nat.le_of_lt (x.above y c (PySem.mem_of_lookup h))
  · have hi : i < vs.length := by
      unfold start at h2
      by_cases hi : i < vs.length
      · exact hi
      · rw [List.getElem?_append_right (by simpa using hi)] at h2
        rw [List.getElem?_replicate] at h2
        split at h2 <;> cases h2
    have ha : vs[i]? = some v := by
      unfold start at h2
      rw [List.getElem?_append_left (by simpa using hi), List.getElem?_map] at h2
      cases e : vs[i]? with
      | none => rw [e] at h2; cases h2
      | some a => rw [e] at h2; cases h2; rfl
    obtain ⟨u, hu, rv⟩ := r.get ha
    have hp : ps[i]? = some y := by
      rw [← S.pre, List.getElem?_take_of_lt (by omega)]; exact h1
    have ndP : ps.Nodup := by rw [← S.pre]; exact S.nd.sublist (List.take_sublist _ _)
    refine ⟨u, rv, ?_⟩
    rcases S.par y (List.mem_of_getElem? hp) with k | k
    · exact .inl ⟨k, bindL_get ndP hp hu k⟩
    · obtain ⟨c, e⟩ := cell_has (n := s.heap.objs.size + 1) k
      refine .inr ⟨.inl k, c, e, ?_⟩
      have q := x.cell y c e
      rw [bindC_get ndP hp hu (by show scope.names.lookup y ≠ _; rw [k]; decide)] at q
      exact q
  · exact e0.hok.fresh (Nat.le_of_lt (x.above y c (PySem.mem_of_lookup h)))
  · unfold start
    show _ = N.length
    rw [List.length_append, List.length_map, List.length_replicate]
    omega
theorem fn_of {CX : CXT} {P : Program} {w : World} {K : PySem.W.Frag} {mg : Str → Option Value} {base : Heap} {k : Nat} {f : Addr} {name qual : Str} {params : Arguments} {body : List Stmt} {scope : Scope} {dV kV doc pm cdv ct oc : Value} {an od : Option Addr}
    {osl : Array (Option Value)} {N ps : List Str} {sp : Sp} (lk : K.lookup f = some ⟨oc, od, .func (PySem.W.fnOf name qual params body scope dV kV doc pm an cdv ct), osl⟩) (hcd : PySem.W.codeIn K cdv qual = true) (S : FnScope N ps scope)
    (len : ∀ vs H Q E, sp vs H Q E → vs.length = ps.length)
    (hbody : ∀ (A : Around) (outer : List Env) (s : Shared) (H : Hp) (vs : List V) (Q : VK) (E : XK), Room k (A.deeper (envOfC qual scope s.heap.objs.size f cdv)) → sp vs H Q E →
      ∃ t, PSs (cxOf CX P w K mg base N qual scope f cdv A outer s H E) body t ∧ t { nx := fun _ H' => Q .non H', rt := Q } (start N vs) H) :
    FnOk P w K mg base CX (k + 1) f (PySem.W.fnOf name qual params body scope dV kV doc pm an cdv ct) ps sp := by
  refine ⟨len, fun A outer s H args us vs Q E hr e0 hb r hsp => ?_⟩
  have hl := len _ _ _ _ hsp
  have KX : K.In s.heap := e0.mod.kin.keeps fun b o e => (e0.bs b o e).1
  have lim : s.heap.NoLimit := e0.mod.nolimit.keeps fun b o e => (e0.bs b o e).1
  have hkind : ∀ y ∈ ps.zip us, scope.names.lookup y.1 = some .local ∨ (scope.names.lookup y.1 = some .cell ∧ ((cellsFrom (s.heap.objs.size + 1) scope.names []).lookup y.1).isSome = true) := fun ⟨n, v⟩ hy => by
    rcases S.par n (List.of_mem_zip hy).1 with q | q
    · exact .inl q
    · exact .inr ⟨q, PySem.W.cellsFrom_some _ _ _ (.inl q)⟩
  refine codeAny_call_function hr.depth (KX _ _ lk) rfl S.co S.gen rfl (PySem.W.codeRec_of KX hcd) (hb _ _ _ _ ?_)
  refine wpAny_newFunctionEnv_cells S.kind hkind fun env he s1 x => ?_
  subst he
  refine ⟨lim.keeps x.toInCall.keep, codeAny_func ?_⟩
  obtain ⟨t, ht, hq⟩ := hbody A outer s H vs Q E (hr.deeper _) hsp
  have I : Inv (cxOf CX P w K mg base N qual scope f cdv A outer s H E) [] (start N vs) H s1 := inv_start S hr.hd e0 hl r x
  refine wpAny_mono (ht [] s1 (start N vs) H _ I hq) (fun fl s' hs => ?_) fun e s' hs => hs
  have fin : ∀ {σ' : St} {H' : Hp} {v : V} {u : Value}, Inv (cxOf CX P w K mg base N qual scope f cdv A outer s H E) [] σ' H' s' → RelV v u → Q v H' → CE outer P w H s Q u s' :=
    fun {σ' H' v u} J rv q => ⟨v, H', J.os, J.bare, J.base, J.hok, rv, q⟩
  cases fl with
  | ret u =>
    obtain ⟨v, σ', H', J, rv, q⟩ := hs
    exact fin J rv q
  | next =>
    obtain ⟨σ', H', J, q⟩ := hs
    exact fin (v := V.non) (u := Value.none) J rfl q
  | brk =>
    obtain ⟨_, _, _, q⟩ := hs
    exact False.elim q
  | cont =>
    obtain ⟨_, _, _, q⟩ := hs
    exact False.elim q
end L2
namespace L2
open PySem PySem.Spec PyProof.Rows
section
variable {X : Cx} {x : Str} {p pos : Pos} {e : Expr} {es : List Expr} {t : TA} {id T : String} {r : List V → Hp → VK → Prop}
def tCB (r : List V → Hp → VK → Prop) (t : TA) : TE := fun σ H Q => t σ H fun vs H1 => r vs H1 Q
theorem pe_callB (hc : CallR X (.builtin id) r) (hg : Gl X x) (hm : X.mg x = none) (hv : bootBuiltins x = some (.builtin id)) (ha : PA X (e :: es) t) (hn : x ≠ "__name__" := by decide) (hdb : (x == ("__debug__" : Str)) = false := by decide)
    (he : starEach (e :: es) X.env = (false, eval e X.env) :: starEach es X.env := by rfl) (hpl : (backTo pos (starEach es X.env)).any (·.1) = false := by rfl) : PE X (.Call (.Name x p) (e :: es) [] pos) (tCB r t) := by
  intro pins s σ H Q I h
  refine wpAny_Call_Name_kw (ld_blt I hg hm hv ?_ hn hdb)
  exact PyProof.Rows.callWith_builtin1 (thn (ha pos pins s σ H _ I h) fun us s1 ⟨vs, H1, I1, r1, q1⟩ => hc pins s1 σ H1 vs us Q I1 r1 q1) he hpl
theorem pe_callTy (hc : CallR X (.type T) r) (hg : Gl X x) (hm : X.mg x = none) (hv : bootBuiltins x = some (.type T)) (ha : PA X (e :: es) t) (hn : x ≠ "__name__" := by decide) (hdb : (x == ("__debug__" : Str)) = false := by decide)
    (he : starEach (e :: es) X.env = (false, eval e X.env) :: starEach es X.env := by rfl) (hpl : (backTo pos (starEach es X.env)).any (·.1) = false := by rfl) : PE X (.Call (.Name x p) (e :: es) [] pos) (tCB r t) := by
  intro pins s σ H Q I h
  refine wpAny_Call_Name_kw (ld_blt I hg hm hv ?_ hn hdb)
  exact PyProof.Rows.callWith_type1 (thn (ha pos pins s σ H _ I h) fun us s1 ⟨vs, H1, I1, r1, q1⟩ => hc pins s1 σ H1 vs us Q I1 r1 q1) he hpl
end
end L2
namespace HT
open PySem PyProof.Rows
section
variable {prog : Program} {w : World} {A : Around} {E : Value → Shared → Prop} {s : Shared}
def sIx (n d : Nat) : Option Int → Nat
  | none => d
  | some v => if v < 0 then (v + (n : Int)).toNat else min v.toNat n
theorem sIx_none (n d : Nat) : sIx n d none = d := rfl
theorem sIx_nat (n d k : Nat) : sIx n d (some (k : Int)) = min k n := by
  show (if (k : Int) < 0 then ((k : Int) + (n : Int)).toNat else min (k : Int).toNat n) = min k n
  rw [if_neg (by omega), Int.toNat_natCast]
end
end HT
namespace L2
open PySem PySem.Spec PyProof.Rows
abbrev TO := St → Hp → (Option Int → Hp → Prop) → Prop
def PO (X : Cx) (e : Option Expr) (t : TO) : Prop :=
  ∀ (pins : List (Addr × Obj)) (s : Shared) (σ : St) (H : Hp) (Q : Option Int → Hp → Prop), Inv X pins σ H s → t σ H Q →
    wpAny (model X.prog X.w) X.A (evalPart e X.env) (fun u s' => ∃ o H', Inv X pins σ H' s' ∧ IsPart u o ∧ Q o H') X.xe s
def tNoPart : TO := fun _ H Q => Q none H
def tPart (t : TE) : TO := fun σ H Q => t σ H fun x H1 => ∃ i, x = .int i ∧ Q (some i) H1
section
variable {X : Cx} {e : Expr} {te : TE} {lo hi : Option Expr} {tl th : TO} {pos p2 : Pos}
theorem po_none : PO X none tNoPart := by
  intro pins s σ H Q I h
  rw [evalPart_none]
  exact wpAny_pure ⟨none, H, I, .none, h⟩
theorem po_some (h : PE X e te) : PO X (some e) (tPart te) := by
  intro pins s σ H Q I hw
  rw [evalPart_some]
  refine thn (h pins s σ H _ I hw) fun u s1 ⟨x, H1, I1, r1, q1⟩ => ?_
  obtain ⟨i, rfl, q⟩ := q1
  obtain ⟨t, rfl⟩ := r1
  exact ⟨some i, H1, I1, .int i t, q⟩
def SlR (X : Cx) (r : V → Option Int → Option Int → Hp → VK → Prop) : Prop :=
  ∀ (pins : List (Addr × Obj)) (s : Shared) (σ : St) (H : Hp) (x : V) (v vl vu : Value) (lo hi : Option Int) (sl : Addr) (Q : VK), Inv X pins σ H s → RelV x v → s.heap.IsSliceOf sl vl vu .none → IsPart vl lo → IsPart vu hi → r x lo hi H Q →
    ∃ T id, typeLookup (.type T) "__getitem__" = pure (some (.builtin id)) ∧ s.TypeIs v T ∧ wpAny (model X.prog X.w) X.A (getItem v (.ref sl)) (EP X pins σ Q) X.xe s
def tSl (r : V → Option Int → Option Int → Hp → VK → Prop) (te : TE) (tl th : TO) : TE := fun σ H Q => te σ H fun x H1 => tl σ H1 fun l H2 => th σ H2 fun u H3 => r x l u H3 Q
theorem pe_slice {r : V → Option Int → Option Int → Hp → VK → Prop} (hr : SlR X r) (he : PE X e te) (hl : PO X lo tl) (hu : PO X hi th) : PE X (.Subscript e (.Slice lo hi none p2) pos) (tSl r te tl th) := by
  intro pins s σ H Q I h
  refine Subscript_ (thn (he pins s σ H _ I h) fun v s1 ⟨x, H1, I1, r1, q1⟩ => ?_)
  refine wpAny_Slice (thn (hl pins s1 σ H1 _ I1 q1) fun vl s2 ⟨l, H2, I2, pl, q2⟩ => thn (hu pins s2 σ H2 _ I2 q2) fun vu s3 ⟨u, H3, I3, pu, q3⟩ => ?_)
  rw [evalPart_none]
  refine wpAny_pure ?_
  have I4 : Inv X pins σ H3 { s3 with heap := s3.heap.push { cls := .type "slice", data := .fields #[vl, vu, .none] } } := I3.kept (t' := s3.toks) fun b ob q => Heap.get?_push_of_some _ q
  obtain ⟨T, id, hT, ht, hg⟩ := hr pins { s3 with heap := s3.heap.push { cls := .type "slice", data := .fields #[vl, vu, .none] } } σ H3 x v vl vu l u s3.heap.objs.size Q I4 r1 (Heap.IsSliceOf.new ..) pl pu q3
  show wpAny (model X.prog X.w) X.A (subscriptTail e (.Slice lo hi none p2) v (.ref s3.heap.objs.size)) (EP X pins σ Q) X.xe { s3 with heap := s3.heap.push { cls := .type "slice", data := .fields #[vl, vu, .none] } }
  exact tail_any (ops := [.ref s3.heap.objs.size, v]) ht hT hg (by with_unfolding_all rfl)
def cutV (xs : List V) (lo hi : Option Int) : List V := (xs.drop (HT.sIx xs.length 0 lo)).take (HT.sIx xs.length xs.length hi - HT.sIx xs.length 0 lo)
theorem cutV_length (xs : List V) (lo hi : Option Int) : (cutV xs lo hi).length ≤ xs.length := by
  unfold cutV
  rw [List.length_take, List.length_drop]
  omega
end
end L2
namespace L2
open PySem PySem.Spec PyProof.Rows
def ixN (n : Nat) (i : Int) : Option Nat := if 0 ≤ i then (if i < n then some i.toNat else none) else if -(n : Int) ≤ i then some (i + n).toNat else none
def atI {α : Type} (xs : List α) (i : Int) : Option α := (ixN xs.length i).bind fun j => xs[j]?
theorem ixN_seq {n : Nat} {i : Int} {j : Nat} (h : ixN n i = some j) : seqIndex? i n = some j ∧ j < n ∧ -(n : Int) ≤ i ∧ i < n := by
  unfold ixN at h
  by_cases h0 : 0 ≤ i
  · rw [if_pos h0] at h
    by_cases h1 : i < n
    · rw [if_pos h1] at h
      have e : i.toNat = j := Option.some.inj h
      exact ⟨by rw [seqIndex_of h0 h1, e], by omega, by omega, h1⟩
    · rw [if_neg h1] at h; cases h
  · rw [if_neg h0] at h
    by_cases h1 : -(n : Int) ≤ i
    · rw [if_pos h1] at h
      have e : (i + n).toNat = j := Option.some.inj h
      exact ⟨by rw [seqIndex_neg (by omega) h1, e], by omega, h1, by omega⟩
    · rw [if_neg h1] at h; cases h
theorem atI_get {α : Type} {xs : List α} {i : Int} {v : α} (h : atI xs i = some v) : ∃ j, seqIndex? i xs.length = some j ∧ xs[j]? = some v ∧ j < xs.length ∧ -(xs.length : Int) ≤ i ∧ i < xs.length := by
  unfold atI at h
  cases e : ixN xs.length i with
  | none => rw [e] at h; cases h
  | some j =>
    rw [e] at h
    obtain ⟨h1, h2, h3, h4⟩ := ixN_seq e
    exact ⟨j, h1, h, h2, h3, h4⟩
theorem atI_nat {α : Type} {xs : List α} {j : Nat} {v : α} (h : xs[j]? = some v) : atI xs (j : Int) = some v := by
  have hj : j < xs.length := (List.getElem?_eq_some_iff.mp h).1
  have e : ixN xs.length (j : Int) = some j := by
    unfold ixN
    rw [if_pos (by omega), if_pos (by omega)]; simp
  unfold atI; rw [e]; exact h
theorem atI_last {α : Type} (xs : List α) (v : α) : atI (xs ++ [v]) (-1) = some v := by
  have hl : (xs ++ [v]).length = xs.length + 1 := by simp
  have e : ixN (xs ++ [v]).length (-1) = some xs.length := by
    unfold ixN
    rw [hl, if_neg (by decide), if_pos (by omega)]
    congr 1
    omega
  unfold atI
  rw [e]
  show (xs ++ [v])[xs.length]? = some v
  simp
def PlainIx (b : Expr) : Prop := ∀ o i, subscripted b false o i = operate [o, i] (getItem o i)
def IxR (X : Cx) (r : R2) : Prop :=
  ∀ (value slice : Expr) (pins : List (Addr × Obj)) (s : Shared) (σ : St) (H : Hp) (x y : V) (v u : Value) (Q : VK), Inv X pins σ H s → RelV x v → RelV y u → r x y H Q →
    subscripted slice false v u = operate [v, u] (getItem v u) → wpAny (model X.prog X.w) X.A (subscriptTail value slice v u) (EP X pins σ Q) X.xe s
def MtR (X : Cx) (id : String) (r : V → List V → Hp → VK → Prop) : Prop :=
  ∀ (pins : List (Addr × Obj)) (s : Shared) (σ : St) (H : Hp) (x : V) (xs : List V) (v : Value) (us : List Value) (Q : VK), Inv X pins σ H s → RelV x v → Vals xs us → r x xs H Q →
    wpAny (model X.prog X.w) X.A (call (.builtin id) (v :: us)) (EP X pins σ Q) X.xe s
section
variable {X : Cx} {a b : Expr} {ta tb : TE} {pos : Pos}
theorem pe_ix {r : R2} (hr : IxR X r) (ha : PE X a ta) (hb : PE X b tb) (hs : PlainIx b) : PE X (.Subscript a b pos) (tOp r ta tb) := by
  intro pins s σ H Q I h
  exact Subscript_ (binT ha hb I h fun v u s2 x y H2 I2 rx ry q => hr a b pins s2 σ H2 x y v u Q I2 rx ry q (hs _ _))
def rIxL (K : PySem.W.Frag) : R2 := fun x y H Q => ∃ p xs i v, x = .ref p ∧ y = .int i ∧ SqL K H p xs ∧ atI xs i = some v ∧ Q v H
def rIxT (K : PySem.W.Frag) : R2 := fun x y H Q => ∃ p xs i v, x = .ref p ∧ y = .int i ∧ SqT K H p xs ∧ atI xs i = some v ∧ Q v H
def rIxS : R2 := fun x y H Q => ∃ z i c, x = .str z ∧ y = .int i ∧ z.length ≤ sizeLine ∧ atI z.cps.toList i = some c ∧ Q (.str ⟨#[c]⟩) H
theorem ix_list : IxR X (rIxL X.K) := by
  intro value slice pins s σ H x y v u Q I rx ry h hs
  obtain ⟨p, xs, i, z, rfl, rfl, hq, he, q⟩ := h
  cases rx
  obtain ⟨t, rfl⟩ := ry
  obtain ⟨its, r, pl, hz⟩ := I.list hq
  obtain ⟨j, h1, h2, h3, h4, h5⟩ := atI_get he
  obtain ⟨w, ew, rw'⟩ := r.get h2
  have hl := r.length
  have hn := line63
  have fin : EP X pins σ Q w s := ⟨z, H, I, rw', q⟩
  by_cases h0 : 0 ≤ i
  · have hj : i.toNat = j := by
      rw [seqIndex_of h0 h5] at h1
      exact Option.some.inj h1
    exact item_listR pl.isList h0 (by omega) (by rw [hj]; simpa using ew) fin hs
  · have hj : (i + (its.toArray.size : Int)).toNat = j := by
      rw [seqIndex_neg (by omega) h4] at h1
      rw [List.size_toArray, ← hl]
      exact Option.some.inj h1
    exact subscriptTail_builtinR (x := w) pl.isList.typeIs slot_list_getitem.lookup
      (wpAny_getItem_list_neg (Q := fun r s' => r = w ∧ EP X pins σ Q r s') pl.isList (by omega) (by rw [List.size_toArray] <;> omega) (by omega) (by rw [hj]; simpa using ew) ⟨rfl, fin⟩) hs
theorem ix_tup : IxR X (rIxT X.K) := by
  intro value slice pins s σ H x y v u Q I rx ry h hs
  obtain ⟨p, xs, i, z, rfl, rfl, hq, he, q⟩ := h
  cases rx
  obtain ⟨t, rfl⟩ := ry
  obtain ⟨its, r, pl, hz⟩ := I.tuple hq
  obtain ⟨j, h1, h2, h3, h4, h5⟩ := atI_get he
  obtain ⟨w, ew, rw'⟩ := r.get h2
  have hl := r.length
  have hn := line63
  have fin : EP X pins σ Q w s := ⟨z, H, I, rw', q⟩
  exact subscriptTail_builtinR (x := w) pl.typeIs slot_tuple_getitem.lookup
    (getItem_tuple (j := j) (Q := fun r s' => r = w ∧ EP X pins σ Q r s') pl (by omega) (by omega) (by rw [List.size_toArray, ← hl]; exact h1) (by simpa using ew) ⟨rfl, fin⟩) hs
theorem ix_str : IxR X rIxS := by
  intro value slice pins s σ H x y v u Q I rx ry h hs
  obtain ⟨z, i, c, rfl, rfl, hz, he, q⟩ := h
  obtain ⟨t, rfl⟩ := rx
  obtain ⟨t', rfl⟩ := ry
  obtain ⟨j, h1, h2, h3, h4, h5⟩ := atI_get he
  have hl : z.cps.toList.length = z.length := by simp [Str.length]
  rw [hl] at h1 h4 h5
  have hn := line63
  exact tail_any (typeIs_str s z t) slot_str_getitem.lookup (getItem_str (c := c) (by
    have e1 : decide (i < -(2 ^ 63 : Int)) = false := decide_eq_false (by omega)
    have e2 : decide (i ≥ 2 ^ 63) = false := decide_eq_false (by omega)
    rw [e1, e2, Bool.or_false]) (by rw [h1]; simpa using h2) ⟨.str ⟨#[c]⟩, H, I.tok _, ⟨_, rfl⟩, q⟩) hs
theorem mapSeq_set (its : List Value) (n j : Nat) (u : Value) : Obj.mapSeq (·.setIfInBounds j u) { cls := .type "list", data := .seq its.toArray n } = { cls := .type "list", data := .seq (its.set j u).toArray n } := by
  simp [Obj.mapSeq]
theorem Inv.lst {pins : List (Addr × Obj)} {σ : St} {H : Hp} {s : Shared} {p : Addr} {xs : List V} (I : Inv X pins σ H s) (h : H p = some (.lst xs)) :
    ∃ (its : List Value) (n : Nat), Vals xs its ∧ s.heap.get? p = some { cls := .type "list", data := .seq its.toArray n } ∧ xs.length ≤ sizeLine := by
  obtain ⟨z, its, n, r, e⟩ := I.hok p _ h
  exact ⟨its, n, r, e, z⟩
theorem Inv.lstUpd {pins : List (Addr × Obj)} {σ : St} {H : Hp} {s : Shared} {p : Addr} {xs ys : List V} {its its' : List Value} {n n' : Nat} {f : Obj → Obj} (I : Inv X pins σ H s) (h : H p = some (.lst xs))
    (ho : s.heap.get? p = some { cls := .type "list", data := .seq its.toArray n }) (hf : f { cls := .type "list", data := .seq its.toArray n } = { cls := .type "list", data := .seq its'.toArray n' }) (r : Vals ys its') (hz : ys.length ≤ sizeLine) (t : Nat) :
    Inv X pins σ (upd H p (.lst ys)) { s with heap := s.heap.update p f, toks := t } := by
  have e : (s.heap.update p f).get? p = some { cls := .type "list", data := .seq its'.toArray n' } := by
    rw [Heap.get?_update_self f ho (by rw [hf] <;> rfl), hf]
  refine I.write (x := p) (e := p) (by rw [h]; trivial) (.inl rfl) (fun b u hb q => (Heap.get?_update_other _ _ (Ne.symm hb)).trans q) ⟨_, e⟩ ?_
  exact ⟨hz, its', n', r, e⟩
def rSetL : V → V → V → Hp → (Hp → Prop) → Prop := fun o i v H Q => ∃ p xs k j, o = .ref p ∧ i = .int k ∧ H p = some (.lst xs) ∧ ixN xs.length k = some j ∧ Q (upd H p (.lst (xs.set j v)))
theorem set_list : PSet X rSetL := by
  intro pins s σ H o i v ov iv u Q I ro ri rv h
  obtain ⟨p, xs, k, j, rfl, rfl, hp, hj, q⟩ := h
  cases ro
  obtain ⟨t, rfl⟩ := ri
  obtain ⟨its, n, r, ho, hz⟩ := I.lst hp
  obtain ⟨h1, h2, h3, h4⟩ := ixN_seq hj
  have hl := r.length
  have hn := line63
  have I' : Inv X pins σ (upd H p (.lst (xs.set j v))) { s with heap := s.heap.update p (Obj.mapSeq (·.setIfInBounds j u)) } :=
    I.lstUpd hp ho (mapSeq_set its n j u) (r.set rv j) (by rw [List.length_set]; exact hz) s.toks
  by_cases h0 : 0 ≤ k
  · have hk : k.toNat = j := by
      rw [seqIndex_of h0 h4] at h1
      exact Option.some.inj h1
    exact PySem.W.ki_setAt ho h0 (by omega) (by rw [List.size_toArray, ← hl]; exact h4) (by rw [hk]; exact ⟨_, I', q⟩)
  · have hk : (k + (its.toArray.size : Int)).toNat = j := by
      rw [seqIndex_neg (by omega) h3] at h1
      rw [List.size_toArray, ← hl]
      exact Option.some.inj h1
    exact PySem.W.ki_setBack ho (by omega) (by rw [List.size_toArray, ← hl]; exact h3) (by omega) (by rw [hk]; exact ⟨_, I', q⟩)
theorem slice_bounds (lo hi : Option Int) (n : Nat) : (sliceBounds lo hi none n).1 = ((HT.sIx n 0 lo : Nat) : Int) ∧ (sliceBounds lo hi none n).2.1 = ((HT.sIx n n hi : Nat) : Int) ∧ (sliceBounds lo hi none n).2.2 = 1 := by
  refine ⟨?_, ?_, rfl⟩
  · cases lo with
    | none => simp [sliceBounds, HT.sIx]
    | some i =>
      simp only [sliceBounds, HT.sIx, Option.getD_none, show (1 : Int) > 0 by decide, if_true]
      by_cases h : i < 0
      · simp only [h, if_true] <;> omega
      · simp only [h, if_false] <;> omega
  · cases hi with
    | none => simp [sliceBounds, HT.sIx]
    | some i =>
      simp only [sliceBounds, HT.sIx, Option.getD_none, show (1 : Int) > 0 by decide, if_true]
      by_cases h : i < 0
      · simp only [h, if_true] <;> omega
      · simp only [h, if_false] <;> omega
theorem slicePick_cut (its : List Value) (lo hi : Option Int) : slicePick its.toArray lo hi none = ((its.drop (HT.sIx its.length 0 lo)).take (HT.sIx its.length its.length hi - HT.sIx its.length 0 lo)).toArray := by
  obtain ⟨h1, h2, h3⟩ := slice_bounds lo hi its.toArray.size
  unfold slicePick
  rw [h1, h2, h3]
  simp only [sliceRange_one, pick_run, List.size_toArray] <;> rfl
def rSlL (K : PySem.W.Frag) : V → Option Int → Option Int → Hp → VK → Prop := fun x lo hi H Q => ∃ a xs, x = .ref a ∧ SqL K H a xs ∧ ∀ p, H p = none → Q (.ref p) (upd H p (.lst (cutV xs lo hi)))
theorem sl_list : SlR X (rSlL X.K) := by
  intro pins s σ H x v vl vu lo hi sl Q I rx hs pl pu h
  obtain ⟨a, xs, rfl, hx, q⟩ := h
  cases rx
  obtain ⟨its, r, ht, hz⟩ := I.list hx
  have hlen := r.length
  refine ⟨"list", _, slot_list_getitem.lookup, ht.isList.typeIs, ?_⟩
  refine wpAny_getItem_list_slice ht.isList hs pl pu .none (by simp) ?_ (by rw [List.size_toArray] <;> omega)
  rw [slicePick_cut, ← hlen]
  refine ⟨.ref s.heap.objs.size, _, I.laid (t' := s.toks) (o := .lst (cutV xs lo hi)) (fun b ob q => Heap.get?_push_of_some _ q) (Nat.le_refl _) ?_, rfl, q _ (I.hok.fresh (Nat.le_refl _))⟩
  exact ⟨Nat.le_trans (cutV_length xs lo hi) hz, _, 0, (r.drop (HT.sIx xs.length 0 lo)).take (HT.sIx xs.length xs.length hi - HT.sIx xs.length 0 lo), Heap.get?_push_size _ rfl⟩
def flatV : V → Bool
  | .non => true
  | .bl _ => true
  | .int _ => true
  | .str _ => true
  | _ => false
def eqV : V → V → Bool
  | .non, .non => true
  | .bl a, .bl b => a == b
  | .bl a, .int b => (if a then 1 else 0) == b
  | .int a, .bl b => a == (if b then 1 else 0)
  | .int a, .int b => a == b
  | .str a, .str b => a == b
  | _, _ => false
theorem eqAt_V {A : Around} {s : Shared} {y x : V} {u v : Value} (ry : RelV y u) (rx : RelV x v) (fy : flatV y = true) (fx : flatV x = true) : SeqAt.EqAt A s u v (eqV y x) := by
  cases y with
  | non =>
    cases ry
    cases x with
    | non => cases rx; exact SeqAt.EqAt.same _
    | bl b => cases rx; exact SeqAt.EqAt.none_bool b
    | int b => obtain ⟨t, rfl⟩ := rx; exact SeqAt.EqAt.none_int b t
    | str b => obtain ⟨t, rfl⟩ := rx; exact SeqAt.EqAt.none_str b t
    | _ => exact absurd (show false = true from fx) Bool.false_ne_true
  | bl a =>
    cases ry
    cases x with
    | non => cases rx; exact SeqAt.EqAt.bool_none a
    | bl b => cases rx; exact SeqAt.EqAt.bool_bool a b
    | int b => obtain ⟨t, rfl⟩ := rx; exact SeqAt.EqAt.bool_int a b t
    | str b => obtain ⟨t, rfl⟩ := rx; exact SeqAt.EqAt.bool_str a b t
    | _ => exact absurd (show false = true from fx) Bool.false_ne_true
  | int a =>
    obtain ⟨t', rfl⟩ := ry
    cases x with
    | non => cases rx; exact SeqAt.EqAt.int_none a t'
    | bl b => cases rx; exact SeqAt.EqAt.int_bool a t' b
    | int b => obtain ⟨t, rfl⟩ := rx; exact SeqAt.EqAt.int_int a t' b t
    | str b => obtain ⟨t, rfl⟩ := rx; exact SeqAt.EqAt.int_str a t' b t
    | _ => exact absurd (show false = true from fx) Bool.false_ne_true
  | str a =>
    obtain ⟨t', rfl⟩ := ry
    cases x with
    | non => cases rx; exact SeqAt.EqAt.str_none a t'
    | bl b => cases rx; exact SeqAt.EqAt.str_bool a t' b
    | int b => obtain ⟨t, rfl⟩ := rx; exact SeqAt.EqAt.str_int a t' b t
    | str b => obtain ⟨t, rfl⟩ := rx; exact SeqAt.EqAt.str_str a t' b t
    | _ => exact absurd (show false = true from fx) Bool.false_ne_true
  | _ => exact absurd (show false = true from fy) Bool.false_ne_true
def eqU (x : V) (u : Value) : Bool := match u with
  | .none => eqV .non x
  | .bool b => eqV (.bl b) x
  | .int i _ => eqV (.int i) x
  | .str z _ => eqV (.str z) x
  | _ => false
theorem eqU_of {x y : V} {u : Value} (r : RelV y u) (f : flatV y = true) : eqU x u = eqV y x := by
  cases y with
  | non => cases r; rfl
  | bl b => cases r; rfl
  | int i => obtain ⟨t, rfl⟩ := r; rfl
  | str z => obtain ⟨t, rfl⟩ := r; rfl
  | _ => exact absurd (show false = true from f) Bool.false_ne_true
theorem any_eqU {x : V} : ∀ {xs : List V} {us : List Value}, Vals xs us → xs.all flatV = true → us.any (eqU x) = xs.any fun y => eqV y x
  | _, _, .nil, _ => rfl
  | y :: xs, u :: us, .cons r t, f => by
    rw [List.all_cons, Bool.and_eq_true] at f
    rw [List.any_cons, List.any_cons, eqU_of r f.1, any_eqU t f.2]
theorem mem_eqAt {A : Around} {s : Shared} {x : V} {v : Value} (rx : RelV x v) (fx : flatV x = true) : ∀ {xs : List V} {us : List Value}, Vals xs us → xs.all flatV = true → ∀ u ∈ us, SeqAt.EqAt A s u v (eqU x u)
  | _, _, .nil, _ => fun u hu => by cases hu
  | y :: xs, u :: us, .cons r t, f => fun u' hu => by
    rw [List.all_cons, Bool.and_eq_true] at f
    rcases List.mem_cons.mp hu with rfl | hu
    · rw [eqU_of r f.1]; exact eqAt_V r rx f.1 fx
    · exact mem_eqAt rx fx t f.2 u' hu
def inV (x : V) (xs : List V) : Bool := xs.any fun y => eqV y x
def rIn (K : PySem.W.Frag) (neg : Bool) : R2 := fun x y H Q => ∃ p xs, y = .ref p ∧ (SqL K H p xs ∨ SqT K H p xs) ∧ flatV x = true ∧ xs.all flatV = true ∧ Q (.bl (if neg then !inV x xs else inV x xs)) H
theorem op_in_seq : OpR X (compareOp .In) (rIn X.K false) := by
  intro pins s σ H x y v u Q I rx ry h
  obtain ⟨p, xs, rfl, hq, fx, fs, q⟩ := h
  cases ry
  rcases hq with hq | hq
  · obtain ⟨its, r, pl, hz⟩ := I.list hq
    refine SeqAt.in_listAt (eqU x) pl.isList (fun w hw => mem_eqAt rx fx r fs w (by simpa using hw)) ⟨.bl _, H, I, rfl, ?_⟩
    rw [show its.toArray.any (eqU x) = its.any (eqU x) by simp, any_eqU r fs]
    exact q
  · obtain ⟨its, r, pl, hz⟩ := I.tuple hq
    refine SeqAt.in_tupleAt (eqU x) pl (fun w hw => mem_eqAt rx fx r fs w (by simpa using hw)) ⟨.bl _, H, I, rfl, ?_⟩
    rw [show its.toArray.any (eqU x) = its.any (eqU x) by simp, any_eqU r fs]
    exact q
theorem call_len_seq : CallR X (.builtin "len") (fun xs H Q => ∃ p ys, xs = [.ref p] ∧ (SqL X.K H p ys ∨ SqT X.K H p ys) ∧ Q (.int ys.length) H) := by
  intro pins s σ H xs us Q I r h
  obtain ⟨p, ys, rfl, hq, q⟩ := h
  obtain ⟨u, rfl, rx⟩ := vals1 r
  cases rx
  have hn := line63
  rcases hq with hq | hq
  · obtain ⟨its, r', pl, hz⟩ := I.list hq
    have hlen := r'.length
    exact Calls.call_len_list pl.isList (by simp only [List.size_toArray] <;> omega) ⟨.int ys.length, H, I.tok _, ⟨s.toks + 1, by rw [List.size_toArray, hlen]⟩, q⟩
  · obtain ⟨its, r', pl, hz⟩ := I.tuple hq
    have hlen := r'.length
    exact len_tuple pl (by simp only [List.size_toArray] <;> omega) ⟨.int ys.length, H, I.tok _, ⟨s.toks + 1, by rw [List.size_toArray, hlen]⟩, q⟩
theorem call_len_str : CallR X (.builtin "len") (fun xs H Q => ∃ z, xs = [.str z] ∧ z.length ≤ sizeLine ∧ Q (.int z.length) H) := by
  intro pins s σ H xs us Q I r h
  obtain ⟨z, rfl, hz, q⟩ := h
  obtain ⟨u, rfl, t, rfl⟩ := vals1 r
  have hn := line63
  exact len_str (by omega) ⟨.int z.length, H, I.tok _, ⟨_, rfl⟩, q⟩
theorem call_list_of : CallR X (.type "list") (fun xs H Q => ∃ p ys, xs = [.ref p] ∧ (SqL X.K H p ys ∨ SqT X.K H p ys) ∧ ∀ l, H l = none → Q (.ref l) (upd H l (.lst ys))) := by
  intro pins s σ H xs us Q I r h
  obtain ⟨p, ys, rfl, hq, q⟩ := h
  obtain ⟨u, rfl, rx⟩ := vals1 r
  cases rx
  have fin : ∀ (its : List Value), Vals ys its → ys.length ≤ sizeLine → ∀ (h' : Heap) (c' : Nat), (∀ b o', s.heap.get? b = some o' → h'.get? b = some o') →
      h'.get? s.heap.objs.size = some { cls := .type "list", dict := none, data := .seq its.toArray c', slots := #[] } → EP X pins σ Q (.ref s.heap.objs.size) { s with heap := h' } := fun its r' hz h' c' kp e =>
    ⟨.ref s.heap.objs.size, _, I.laid (t' := s.toks) kp (Nat.le_refl _) (show ObjOk X.prog X.w _ h' _ (.lst ys) from ⟨hz, its, c', r', e⟩), rfl, q _ (I.hok.fresh (Nat.le_refl _))⟩
  rcases hq with hq | hq
  · obtain ⟨its, r', pl, hz⟩ := I.list hq
    have hlen := r'.length
    obtain ⟨o, ho, hc, n, hd⟩ := pl.isList
    exact call_list_seq p (.inl rfl) ho hc hd (fun h' c' kp e => fin its r' hz h' c' kp e) (by simp only [List.size_toArray] <;> omega)
  · obtain ⟨its, r', pl, hz⟩ := I.tuple hq
    have hlen := r'.length
    obtain ⟨o, ho, hc, n, hd⟩ := pl
    exact call_list_seq p (.inr rfl) ho hc hd (fun h' c' kp e => fin its r' hz h' c' kp e) (by simp only [List.size_toArray] <;> omega)
theorem call_tuple_of : CallR X (.type "tuple") (fun xs H Q => ∃ p ys, xs = [.ref p] ∧ ((SqL X.K H p ys ∧ ∀ l, H l = none → Q (.ref l) (upd H l (.tup ys))) ∨ (SqT X.K H p ys ∧ Q (.ref p) H))) := by
  intro pins s σ H xs us Q I r h
  obtain ⟨p, ys, rfl, h⟩ := h
  obtain ⟨u, rfl, rx⟩ := vals1 r
  cases rx
  rcases h with ⟨hq, q⟩ | ⟨hq, q⟩
  · obtain ⟨its, r', pl, hz⟩ := I.list hq
    have hlen := r'.length
    refine call_tuple_list pl.isList (fun h' kp => ?_) (by simp only [List.size_toArray] <;> omega)
    have I1 : Inv X pins σ H { s with heap := h' } := I.kept (t' := s.toks) kp
    have I2 : Inv X pins σ (upd H h'.objs.size (.tup ys)) { s with heap := h'.push { cls := .type "tuple", data := .seq its.toArray } } :=
      I1.laid (t' := s.toks) (fun b o e => Heap.get?_push_of_some _ e) (Nat.le_refl _) (show ObjOk X.prog X.w _ _ _ (.tup ys) from ⟨hz, its, r', IsTup.new _ _⟩)
    exact ⟨.ref h'.objs.size, _, I2, rfl, q _ (I1.hok.fresh (Nat.le_refl _))⟩
  · obtain ⟨its, r', pl, hz⟩ := I.tuple hq
    exact call_tuple_same pl ⟨.ref p, H, I, rfl, q⟩
def tyV (K : PySem.W.Frag) (T : String) (x : V) (H : Hp) : Prop := match x with
  | .str _ => T = "str"
  | .int _ => T = "int"
  | .ref p => (T = "list" ∧ ∃ xs, SqL K H p xs) ∨ (T = "tuple" ∧ ∃ o, K.lookup p = some o ∧ o.cls = .type "tuple" ∧ o.dict = none) ∨
      (T = "dict" ∧ ((∃ kvs, H p = some (.dK kvs)) ∨ ∃ kvs, H p = some (.dT kvs))) ∨ (T = "set" ∧ ∃ S n, H p = some (.set S n))
  | _ => False
theorem tyV_is {pins : List (Addr × Obj)} {σ : St} {H : Hp} {s : Shared} {T : String} {x : V} {v : Value} (I : Inv X pins σ H s) (r : RelV x v) (ty : tyV X.K T x H) :
    s.TypeIs v T ∧ ∀ a, v = .ref a → ∃ ob, s.heap.get? a = some ob ∧ ob.dict = none := by
  cases x with
  | str z =>
    obtain ⟨t, rfl⟩ := r
    cases (show T = "str" from ty)
    exact ⟨typeIs_str s z t, fun _ e => nomatch e⟩
  | int i =>
    obtain ⟨t, rfl⟩ := r
    cases (show T = "int" from ty)
    exact ⟨typeIs_int s i t, fun _ e => nomatch e⟩
  | ref p =>
    cases r
    rcases ty with ⟨rfl, xs, hq⟩ | ⟨rfl, o, hk, hc, hd⟩ | ⟨rfl, hk⟩ | ⟨rfl, S, n, hk⟩
    · obtain ⟨its, _, pl, _⟩ := I.list hq
      refine ⟨pl.isList.typeIs, fun a e => ?_⟩
      cases e
      obtain ⟨o, n, e, c, hd, _⟩ := pl
      exact ⟨o, e, hd⟩
    · refine ⟨⟨o, I.kIn p o hk, hc⟩, fun a e => ?_⟩
      cases e
      exact ⟨o, I.kIn _ o hk, hd⟩
    · have z : ∃ o, s.heap.get? p = some o ∧ o.ExactDict := by
        rcases hk with ⟨kvs, hk⟩ | ⟨kvs, hk⟩
        · obtain ⟨_, _, _, _, o, _, _, e, ex, _⟩ := I.hok p _ hk
          exact ⟨o, e, ex⟩
        · obtain ⟨_, _, _, _, o, _, _, e, ex, _⟩ := I.hok p _ hk
          exact ⟨o, e, ex⟩
      obtain ⟨o, e, ex⟩ := z
      refine ⟨⟨o, e, ex.1⟩, fun a e2 => ?_⟩
      cases e2
      exact ⟨o, e, ex.2.1⟩
    · obtain ⟨o, _, _, _, e, ex, _⟩ := I.hok p _ hk
      refine ⟨⟨o, e, ex.1⟩, fun a e2 => ?_⟩
      cases e2
      exact ⟨o, e, ex.2.1⟩
  | _ => exact False.elim ty
def tBM0 (K : PySem.W.Frag) (T : String) (r : V → List V → Hp → VK → Prop) (to : TE) : TE := fun σ H Q => to σ H fun x H1 => tyV K T x H1 ∧ r x [] H1 Q
def tBM (K : PySem.W.Frag) (T : String) (r : V → List V → Hp → VK → Prop) (to : TE) (t : TA) : TE := fun σ H Q => to σ H fun x H1 => tyV K T x H1 ∧ t σ H1 fun xs H2 => r x xs H2 Q
variable {o e : Expr} {es : List Expr} {to : TE} {t : TA} {name : Str} {apos cpos : Pos} {T id : String} {r : V → List V → Hp → VK → Prop}
theorem pe_bm0 (pa : PlainAttrs T) (slot : Slot T name id) (hty : typeOf (.builtin id) = pure (.type "method_descriptor")) (hm : MtR X id r) (ho : PE X o to)
    (hbase : attributeBase o name X.env (eval o X.env) = eval o X.env := by rfl) (hline : (apos.endLine == cpos.line) = true := by rfl) : PE X (.Call (.Attribute o name apos) [] [] cpos) (tBM0 X.K T r to) := by
  intro pins s σ H Q I h
  refine wpAny_Call_method0_late hbase hline (thn (ho pins s σ H _ I h) fun v s1 ⟨x, H1, I1, r1, ty, q1⟩ => ?_)
  obtain ⟨h1, h2⟩ := tyV_is I1 r1 ty
  exact ⟨T, id, pa, slot, hty, h1, h2, Calls.callWith_builtin rfl (PySem.evalArgs_none (hm pins s1 σ H1 x [] v [] Q I1 r1 .nil q1))⟩
theorem pe_bm (pa : PlainAttrs T) (slot : Slot T name id) (hty : typeOf (.builtin id) = pure (.type "method_descriptor")) (hm : MtR X id r) (ho : PE X o to) (ha : PA X (e :: es) t)
    (hbase : attributeBase o name X.env (eval o X.env) = eval o X.env := by rfl)
    (hfew : ((backTo cpos (starEach (e :: es) X.env)).all (fun x => !x.1) && (backToKw cpos (keywordEach [] X.env)).all (fun x => x.1.isSome)
      && decide ((e :: es).length + ([] : List Keyword).length + (if ([] : List Keyword).isEmpty then 0 else 1) < 30)) = true := by rfl)
    (hline : (apos.endLine == cpos.line) = true := by rfl) (hs : starEach (e :: es) X.env = (false, eval e X.env) :: starEach es X.env := by rfl) (hplain : (backTo cpos (starEach es X.env)).any (·.1) = false := by rfl) :
    PE X (.Call (.Attribute o name apos) (e :: es) [] cpos) (tBM X.K T r to t) := by
  intro pins s σ H Q I h
  refine wpAny_Call_method_late hbase hfew hline rfl (thn (ho pins s σ H _ I h) fun v s1 ⟨x, H1, I1, r1, ty, q1⟩ => ?_)
  obtain ⟨h1, h2⟩ := tyV_is I1 r1 ty
  refine ⟨T, id, pa, slot, hty, h1, h2, ?_⟩
  have hA := ha cpos pins s1 σ H1 _ I1 q1
  rw [hs] at hA ⊢
  refine Calls.callWith_builtin (by show (false || (backTo cpos (starEach es X.env)).any (·.1)) = false; rw [hplain] <;> rfl) (Calls.evalArgs_plain ?_)
  exact thn hA fun us s2 ⟨vs, H2, I2, r2, q2⟩ => hm pins s2 σ H2 x vs v us Q I2 r1 r2 q2
end
end L2
namespace L2
open PySem PySem.Spec PyProof.Rows
def MtM (X : Cx) (id : String) (r : V → List V → Hp → VK → Prop) : Prop :=
  ∀ (pins : List (Addr × Obj)) (s : Shared) (σ : St) (H : Hp) (x : V) (xs : List V) (v : Value) (us : List Value) (Q : VK), Inv X pins σ H s → RelV x v → Vals xs us → r x xs H Q →
    wpAny (model X.prog X.w) X.A (call (.builtin id) (v :: us)) (EP X pins σ Q) X.xe s
theorem Vals.one : ∀ {x : V} {us : List Value}, Vals [x] us → ∃ u, us = [u] ∧ RelV x u
  | _, _, .cons r .nil => ⟨_, rfl, r⟩
theorem Vals.zero : ∀ {us : List Value}, Vals [] us → us = []
  | _, .nil => rfl
theorem Vals.dropLast {xs : List V} {us : List Value} (h : Vals xs us) : Vals xs.dropLast us.dropLast := by
  induction h with
  | nil => exact .nil
  | cons r t ih =>
    cases t with
    | nil => exact .nil
    | cons q t' => exact .cons r ih
theorem Vals.eraseIdx : ∀ {xs : List V} {us : List Value} (i : Nat), Vals xs us → Vals (xs.eraseIdx i) (us.eraseIdx i)
  | _, _, _, .nil => .nil
  | _, _, 0, .cons _ t => t
  | _, _, i + 1, .cons r t => .cons r (Vals.eraseIdx i t)
theorem Vals.rep {xs : List V} {us : List Value} (h : Vals xs us) : ∀ k : Nat, Vals (List.replicate k xs).flatten (List.replicate k us).flatten
  | 0 => .nil
  | k + 1 => by
    rw [List.replicate_succ, List.replicate_succ, List.flatten_cons, List.flatten_cons]
    exact Vals.append h (Vals.rep h k)
theorem erase_last {α : Type} (l : List α) : l.eraseIdx (l.length - 1) = l.dropLast := by
  induction l with
  | nil => rfl
  | cons a r ih =>
    cases r with
    | nil => rfl
    | cons b r =>
      have e : (a :: b :: r).length - 1 = ((b :: r).length - 1) + 1 := by
        have h1 : (a :: b :: r).length = r.length + 2 := rfl
        have h2 : (b :: r).length = r.length + 1 := rfl
        omega
      rw [e, List.eraseIdx_cons_succ, ih]
      all_goals rfl
theorem len_erase {α : Type} : ∀ (l : List α) (i : Nat), (l.eraseIdx i).length ≤ l.length
  | [], _ => Nat.le_refl _
  | _ :: _, 0 => Nat.le_succ _
  | _ :: r, i + 1 => Nat.succ_le_succ (len_erase r i)
theorem foldl_rep (its : List Value) : ∀ (k : Nat) (acc : List Value),
    List.foldl (fun x1 x2 => x1 ++ x2) acc.toArray (List.replicate k its.toArray) = (acc ++ (List.replicate k its).flatten).toArray
  | 0, acc => by simp
  | k + 1, acc => by
    have e : acc.toArray ++ its.toArray = (acc ++ its).toArray := by simp
    have e2 : (acc ++ its) ++ (List.replicate k its).flatten = acc ++ (List.replicate (k + 1) its).flatten := by
      rw [List.replicate_succ, List.flatten_cons, List.append_assoc]
    rw [← e2, ← foldl_rep its k (acc ++ its), ← e, List.replicate_succ, List.foldl_cons]
section
variable {X : Cx} {pins : List (Addr × Obj)} {σ : St} {H : Hp} {s : Shared} {l b : Addr} {xs ys zs : List V}
theorem Inv.lset {its its' : List Value} {n : Nat} {f : Array Value → Array Value} {t' : Nat} (I : Inv X pins σ H s) (hH : H l = some (.lst xs))
    (e : s.heap.get? l = some { cls := .type "list", data := .seq its.toArray n }) (hf : f its.toArray = its'.toArray) (hv : Vals ys its') (hz : ys.length ≤ sizeLine) :
    Inv X pins σ (upd H l (.lst ys)) { s with heap := s.heap.update l (Obj.mapSeq f), toks := t' } := by
  have q := PySem.IsL.update e f
  rw [hf] at q
  refine I.write (x := l) (e := l) (by rw [hH]; exact trivial) (.inl rfl) (fun b' u hb hu => (Heap.get?_update_other s.heap (Obj.mapSeq f) (Ne.symm hb)).trans hu) ⟨_, q⟩ ?_
  exact ⟨hz, its', _, hv, q⟩
theorem Inv.lnew {its : List Value} {t' : Nat} (I : Inv X pins σ H s) (hv : Vals ys its) (hz : ys.length ≤ sizeLine) :
    Inv X pins σ (upd H s.heap.objs.size (.lst ys)) { s with heap := s.heap.push { cls := .type "list", data := .seq its.toArray }, toks := t' } :=
  I.laid (fun _ _ q => Heap.get?_push_of_some _ q) (Nat.le_refl _) ⟨hz, its, 0, hv, Heap.get?_push_size _ rfl⟩
theorem Inv.fresh (I : Inv X pins σ H s) : H s.heap.objs.size = none := I.hok.fresh (Nat.le_refl _)
theorem Inv.lstM (I : Inv X pins σ H s) (hH : H l = some (.lst xs)) : xs.length ≤ sizeLine ∧ ∃ (its : List Value) (n : Nat), Vals xs its ∧ xs.length = its.length ∧ s.heap.get? l = some { cls := .type "list", data := .seq its.toArray n } := by
  obtain ⟨z, its, n, r, e⟩ := I.hok l _ hH
  exact ⟨z, its, n, r, r.length, e⟩
theorem notLongL {n : Nat} (h : n ≤ sizeLine) : Builtin.List.listTooLong n = false := by
  unfold Builtin.List.listTooLong
  exact decide_eq_false (by omega)
end
section
variable {X : Cx}
def rAppend : V → List V → Hp → VK → Prop := fun x vs H Q => ∃ l xs y, x = .ref l ∧ vs = [y] ∧ H l = some (.lst xs) ∧ xs.length < sizeLine ∧ Q .non (upd H l (.lst (xs ++ [y])))
theorem mt_append : MtM X "list.append" rAppend := by
  intro pins s σ H x vs v us Q I rx rv h
  obtain ⟨l, xs, y, rfl, rfl, hH, hz, q⟩ := h
  cases rx
  obtain ⟨u, rfl, ru⟩ := rv.one
  obtain ⟨z, its, n, r, hl, e⟩ := I.lstM hH
  refine call_meets F.slot_list_append ⟨_, e, rfl⟩ F.entry_list_append (F.args_list_append_2 _ _) (PySem.list_append l its.toArray n u (by rw [List.size_toArray]; omega)) ⟨e, ?_⟩
  refine ⟨.non, _, I.lset (its' := its ++ [u]) hH e (by simp) (r.append (.cons ru .nil)) ?_, rfl, q⟩
  rw [List.length_append, List.length_singleton]
  omega
def rPop : V → List V → Hp → VK → Prop := fun x vs H Q => ∃ l xs y, x = .ref l ∧ vs = [] ∧ H l = some (.lst xs) ∧ xs[xs.length - 1]? = some y ∧ Q y (upd H l (.lst xs.dropLast))
theorem mt_pop : MtM X "list.pop" rPop := by
  intro pins s σ H x vs v us Q I rx rv h
  obtain ⟨l, xs, y, rfl, rfl, hH, hy, q⟩ := h
  cases rx
  have hus := rv.zero
  subst hus
  obtain ⟨z, its, n, r, hl, e⟩ := I.lstM hH
  obtain ⟨u, hu, ru⟩ := r.get hy
  have hy' : its.toArray[its.toArray.size - 1]? = some u := by
    show its.toArray[its.length - 1]? = some u
    rw [← Array.getElem?_toList, ← hl]
    exact hu
  refine call_meets F.slot_list_pop ⟨_, e, rfl⟩ F.entry_list_pop (F.args_list_pop_1 _) (MeetsSeq.list_pop_last l its.toArray n u hy' (by rw [List.size_toArray]; omega)) ⟨e, ?_⟩
  refine ⟨y, _, I.lset (its' := its.dropLast) hH e ?_ r.dropLast ?_, ru, q⟩
  · show its.toArray.eraseIdxIfInBounds (its.toArray.size - 1) = its.dropLast.toArray
    rw [List.size_toArray, List.eraseIdxIfInBounds_toArray, erase_last]
  · rw [List.length_dropLast]
    omega
def rPopAt : V → List V → Hp → VK → Prop := fun x vs H Q => ∃ l xs i k y, x = .ref l ∧ vs = [.int i] ∧ H l = some (.lst xs) ∧ -(2 ^ 63) ≤ i ∧ i < 2 ^ 63 ∧ seqIndex? i xs.length = some k ∧ xs[k]? = some y ∧ Q y (upd H l (.lst (xs.eraseIdx k)))
theorem mt_popAt : MtM X "list.pop" rPopAt := by
  intro pins s σ H x vs v us Q I rx rv h
  obtain ⟨l, xs, i, k, y, rfl, rfl, hH, h1, h2, hk, hy, q⟩ := h
  cases rx
  obtain ⟨u, rfl, ru⟩ := rv.one
  obtain ⟨t, rfl⟩ := ru
  obtain ⟨z, its, n, r, hl, e⟩ := I.lstM hH
  obtain ⟨w, hw, rw'⟩ := r.get hy
  refine call_meets F.slot_list_pop ⟨_, e, rfl⟩ F.entry_list_pop (F.args_list_pop_2 _ _)
    (MeetsSeq.list_pop_at l its.toArray n i t k w (fitsIndex_both h1 h2) (by rw [List.size_toArray, ← hl]; exact hk) (by rw [← Array.getElem?_toList]; exact hw) (by rw [List.size_toArray]; omega)) ⟨e, ?_⟩
  refine ⟨y, _, I.lset (its' := its.eraseIdx k) hH e ?_ (r.eraseIdx k) ?_, rw', q⟩
  · show its.toArray.eraseIdxIfInBounds k = (its.eraseIdx k).toArray
    rw [List.eraseIdxIfInBounds_toArray]
  · have := len_erase xs k
    omega
def rCat : R2 := fun x y H Q => ∃ l b xs zs, x = .ref l ∧ y = .ref b ∧ H l = some (.lst xs) ∧ H b = some (.lst zs) ∧ xs.length + zs.length ≤ sizeLine ∧ ∀ p, H p = none → Q (.ref p) (upd H p (.lst (xs ++ zs)))
theorem op_cat : OpR X (binaryOp .Add) rCat := by
  intro pins s σ H x y v u Q I rx ry h
  obtain ⟨l, b, xs, zs, rfl, rfl, hH, hB, hz, q⟩ := h
  cases rx
  cases ry
  obtain ⟨z, its, n, r, hl, e⟩ := I.lstM hH
  obtain ⟨z2, its2, n2, r2, hl2, e2⟩ := I.lstM hB
  refine PySem.P.add_list e e2 ?_ (by rw [List.size_toArray, List.size_toArray]; omega)
  have ea : its.toArray ++ its2.toArray = (its ++ its2).toArray := by simp
  rw [ea]
  exact ⟨.ref _, _, I.lnew (t' := s.toks) (r.append r2) (by rw [List.length_append]; omega), rfl, q _ I.fresh⟩
def rRep : R2 := fun x y H Q => ∃ l k xs, x = .ref l ∧ y = .int k ∧ H l = some (.lst xs) ∧ -(2 ^ 63) ≤ k ∧ k < 2 ^ 63 ∧ xs.length * k.toNat ≤ sizeLine ∧
  ∀ p, H p = none → Q (.ref p) (upd H p (.lst (List.replicate k.toNat xs).flatten))
theorem len_rep {α : Type} (xs : List α) (k : Nat) : (List.replicate k xs).flatten.length = k * xs.length := by
  induction k with
  | zero => simp
  | succ k ih => rw [List.replicate_succ, List.flatten_cons, List.length_append, ih, Nat.succ_mul, Nat.add_comm]
theorem op_rep : OpR X (binaryOp .Mult) rRep := by
  intro pins s σ H x y v u Q I rx ry h
  obtain ⟨l, k, xs, rfl, rfl, hH, h1, h2, hz, q⟩ := h
  cases rx
  obtain ⟨t, rfl⟩ := ry
  obtain ⟨z, its, n, r, hl, e⟩ := I.lstM hH
  have hlen : its.toArray.size * k.toNat ≤ sizeLine := by rw [List.size_toArray, ← hl]; exact hz
  have hcap : ¬ its.toArray.size * k.toNat > (2 ^ 63 - 1) / 8 := by
    have : (sizeLine : Nat) ≤ (2 ^ 63 - 1) / 8 := by decide
    omega
  have hfit : ¬ (!Builtin.List.listFitsIndex k) = true := by
    rw [fitsIndex_both h1 h2]
    exact Bool.false_ne_true
  have hlong : ¬ Builtin.List.listTooLong (its.toArray.size * k.toNat) = true := by
    rw [notLongL hlen]
    exact Bool.false_ne_true
  have hnew : List.foldl (fun x1 x2 => x1 ++ x2) #[] (List.replicate (if its.toArray.isEmpty = true then 0 else k.toNat) its.toArray) = (List.replicate k.toNat its).flatten.toArray := by
    have f0 : ∀ m : Nat, List.foldl (fun x1 x2 => x1 ++ x2) #[] (List.replicate m its.toArray) = (List.replicate m its).flatten.toArray := fun m => by
      have := foldl_rep its m []
      rw [List.nil_append] at this
      exact this
    rw [f0]
    cases its with
    | nil => simp
    | cons a r' => rw [if_neg (by simp)]
  refine wpAny_binaryOp_repeat_ref (T := "list") (U := "int") (by decide) ⟨_, e, rfl⟩ (fun s' => typeIs_int s' k t) noFill_list_mul F.fills_int_mul F.slot_int_rmul repeat_list F.slot_int_index.lookup
    (call_meets F.slot_int_rmul (typeIs_int s k t) F.entry_int_rmul (F.args_int_rmul_2 _ _) (int___rmul___int_list k t l its.toArray n)
      ⟨e, rfl, ⟨_, e, rfl⟩, call_meets F.slot_list_mul ⟨_, e, rfl⟩ F.entry_list_mul (F.args_list_mul_2 _ _) (AutoListH.list___mul___list_int_3 l its.toArray n k t hfit hcap hlong) ⟨e, ?_⟩⟩)
  rw [hnew]
  exact ⟨.ref _, _, I.lnew (t' := s.toks) (r.rep k.toNat) (by rw [len_rep, Nat.mul_comm]; exact hz), rfl, q _ I.fresh⟩
end
end L2
namespace Att
open PySem PySem.W PySem.Calls PyProof.Rows
theorem ints_of_wellAll {P : Params} {h : Heap} : ∀ (ns : List Int) (vs : List Value), WellAll P h vs (ns.map WData.int) → IntsAre vs ns := by
  intro ns
  induction ns with
  | nil =>
    intro vs w
    rw [List.map_nil] at w
    cases w
    exact .nil
  | cons n ns ih =>
    intro vs w
    rw [List.map_cons] at w
    cases w with
    | cons a b =>
      cases a
      exact .cons _ _ (ih _ b)
theorem script_of {l : OpenLaw} {n : Nat} (hn : l.most = some n) {P : Params} {h : Heap} {args : List WData} {vals : List Value}
    (hpre : l.row.toRowW.claim.pre args = true) (hwl : WellAll P h vals args) :
    ∃ a vs ns, vals = [Value.ref a] ∧ args = [WData.list (ns.map WData.int)] ∧ h.get? a = some { cls := .type "list", data := .seq vs.toArray } ∧ IntsAre vs ns ∧ ns.length ≤ n := by
  have hsh : WShape.hasAll [] args [.list .int] = true := (pre_splitW hpre).1
  have hc : l.pre.holds [] { args := args } = true := (pre_splitW hpre).2
  obtain ⟨d, r, rfl, h1, h2⟩ := hasAllW_cons hsh
  obtain rfl := hasAllW_nil h2
  obtain ⟨xs, rfl, h3⟩ := hasW_list h1
  obtain ⟨ns, rfl⟩ := items_int h3
  have hlen : ns.length ≤ n := by
    unfold OpenLaw.pre at hc
    have h4 : (WTm.not (.lt (.lit (.int (n : Int))) (.len (.arg 0)))).holds [] { args := [.list (ns.map .int)] } = true := by
      have h4 := (holds_andW hc).1
      rw [hn] at h4
      exact h4
    have h5 := condW_of h4 (w_not (w_lt w_lit (w_len_list (w_arg rfl))))
    rw [List.length_map] at h5
    refine Nat.le_of_not_lt fun q => ?_
    have q' : (n : Int) < ((ns.length : Nat) : Int) := by omega
    first
      | (rw [decide_eq_true q'] at h5; exact absurd h5 (by decide))
      | (simp at h5; omega)
  cases hwl with
  | cons w1 w2 =>
    cases w2
    cases w1 with
    | list ho hall => exact ⟨_, _, ns, rfl, rfl, ho, ints_of_wellAll ns _ hall, hlen⟩
theorem post_true (l : OpenLaw) (args : List WData) : l.row.toRowW.claim.post args (.bool true) args = true :=
  postW_of (r := l.row.toRowW) (X := (true == true))
    (show WShape.has [] (.bool true) .bool = true by first | rfl | decide | simp [WShape.has, WShape.arms, WShape.armsAll])
    (show (WTm.eq .res (.lit (.bool true))).value [] { args := args, res := some (.bool true), after := args } = some (.bool (true == true)) from w_eq_bool (w_res rfl) w_lit) rfl
theorem attach_call {l : OpenLaw} {n : Nat} {q : Program} {loose : List Str} {XP : (Str → Option Value) → Heap → Prop} {YP : World → Heap → Prop} {d : DefRec}
    (hn : l.most = some n) (hdf : d.params.defaults = [])
    (call : ∀ (w : World) (s₀ s₁ : Shared) (mg mb : Str → Option Value) (fa : Addr) (o : Obj) (pm cd doc : Value) (a : Addr) (vs : List Value) (ns : List Int),
      Ground q loose [] XP w s₀ mg mb s₁.heap → YP w s₁.heap →
      s₁.heap.get? fa = some o → o.data = .func (docDef d.name d.params d.body d.scope pm cd doc) → s₁.heap.CodeRec cd d.name → mg d.name = some (.ref fa) →
      s₁.heap.get? a = some { cls := .type "list", data := .seq vs.toArray } → IntsAre vs ns → ns.length ≤ n → s₁.gens = #[] →
      codeAny (model l.prog w) callerA (.call (.ref fa) ⟨[.ref a], []⟩) (fun r s' => r = .ok (.ret (.bool true)) ∧ OldK s₁.heap s'.heap ∧ s'.os = s₁.os ∧ AllBare s'.gens) s₁) :
    WalkO q loose XP YP l.row.toRowW d [] (fun f vs => PySem.call f vs) := by
  intro w s₀ s₁ mg mb G Y fa o pm cd doc dV kV ho hd hcd hD hmg hg args vals as hpre hlay hrd hwl hlo
  obtain rfl : dV = .none := Dflts.none hD hdf
  obtain rfl : kV = .none := Dflts.noKw hD
  obtain ⟨a, vs, ns, rfl, rfl, hobj, hints, hlen⟩ := script_of hn hpre hwl
  refine enter_call (codeAny_mono (call w s₀ s₁ mg mb fa o pm cd doc a vs ns G Y ho (fd_plain hd) hcd hmg hobj hints hlen hg) fun r s' hq => ?_)
  obtain ⟨rfl, h2, h3, h4⟩ := hq
  exact ⟨.inl ⟨.bool true, .bool true, [], rfl, fun _ => rfl, .bool true, post_true l _, fun _ => ⟨List.Pairwise.nil, fun _ hm => (nomatch hm)⟩⟩, h2, h3, h4⟩
end Att
namespace L2
open PySem PySem.Spec PyProof.Rows
theorem vals_ints : ∀ {vs : List Value} {ns : List Int}, IntsAre vs ns → Vals (ns.map V.int) vs
  | _, _, .nil => .nil
  | _, _, .cons n t h => .cons ⟨t, rfl⟩ (vals_ints h)
def Only (H : Hp) : Prop := ∀ b, H b = none ∨ ∃ o xs, H b = some (.frz o (.lst xs))
theorem law_call {P : Program} {w : World} {K : PySem.W.Frag} {mg mb : Str → Option Value} {CX : CXT} {k : Nat} {fa a : Addr} {fd : FuncData} {x : Str} {sp : Sp} {s₁ : Shared} {vs : List Value} {ns : List Int}
    (KX : K.In s₁.heap) (hns : s₁.heap.Ns mainGlobals mg) (hb : s₁.heap.Ns builtinsNs mb) (hbb : ∀ x : Str, x ≠ "__name__" → mb x = bootBuiltins x) (hlim : s₁.heap.NoLimit) (hg : s₁.gens = #[])
    (ha : s₁.heap.get? a = some { cls := .type "list", data := .seq vs.toArray }) (hi : IntsAre vs ns) (hl : ns.length ≤ sizeLine) (hr : Room k callerA)
    (F : ∀ base : Heap, K.In base → base.Ns mainGlobals mg → FnOk P w K mg base CX k fa fd [x] sp) (hbind : ∀ (s : Shared) (u : Value), BindsTo s fd ⟨[u], []⟩ [(x, u)])
    (hsp : ∀ H : Hp, Only H → SqL K H a (ns.map V.int) → sp [.ref a] H (fun v _ => v = .bl true) fun _ _ _ => False)
    (hCX : ∀ H e s', CX [] H s₁ (fun _ _ _ => False) e s' → False) :
    codeAny (model P w) callerA (.call (.ref fa) ⟨[.ref a], []⟩) (fun r s' => r = .ok (.ret (.bool true)) ∧ OldK s₁.heap s'.heap ∧ s'.os = s₁.os ∧ AllBare s'.gens) s₁ := by
  have rv := vals_ints hi
  have lenV := hi.length
  -- from an abstract heap in which nothing but the script may be tracked
  have core : ∀ H : Hp, Only H → SqL K H a (ns.map V.int) → HOk P w H s₁.heap → (∀ b, H b ≠ none → b = a) → (H a ≠ none → K.lookup a = none) →
      codeAny (model P w) callerA (.call (.ref fa) ⟨[.ref a], []⟩) (fun r s' => r = .ok (.ret (.bool true)) ∧ OldK s₁.heap s'.heap ∧ s'.os = s₁.os ∧ AllBare s'.gens) s₁ := by
    intro H hO hS hok hA hK
    have base_of : ∀ {b : Addr} {o : Obj}, s₁.heap.get? b = some o → H b = none → (hidT s₁.heap H).get? b = some o := fun e n => hidT_get e n
    have noA : ∀ {b : Addr} {o : Obj} {es : Array DictEntry} {ep : Nat}, s₁.heap.get? b = some o → o.data = .dict es ep → H b = none := fun {b o es ep} e d => by
      cases q : H b with
      | none => rfl
      | some u =>
        have e' : b = a := hA b (by rw [q]; simp)
        subst e'
        rw [ha] at e; cases e
        have d' : Data.seq vs.toArray _ = Data.dict es ep := d
        cases d'
    have nsK : ∀ {b : Addr} {m : Str → Option Value}, s₁.heap.Ns b m → (hidT s₁.heap H).Ns b m := fun {b m} ⟨o, es, ep, e, d, r⟩ => ⟨o, es, ep, base_of e (noA e d), d, r⟩
    have hKb : K.In (hidT s₁.heap H) := fun b o e => base_of (KX b o e) (by
      cases q : H b with
      | none => rfl
      | some u =>
        have e' : b = a := hA b (by rw [q]; simp)
        subst e'
        rw [hK (by rw [q]; simp)] at e; cases e)
    have hM : Mod K mg (hidT s₁.heap H) := ⟨hKb, nsK hns, ⟨mb, nsK hb, hbb⟩, let ⟨mc, h1, h2⟩ := hlim; ⟨mc, nsK h1, h2⟩⟩
    have e0 : Env0 P w K mg (hidT s₁.heap H) callerA [] s₁ H := ⟨rfl, hM, fun b o e => of_hidT e, Nat.le_of_eq (hidT_size _ _), trivial, fun b hb => absurd (show b ∈ ([] : List Addr) from hb) (by simp), hok, .of_eq hg⟩
    refine codeAny_mono ((F _ hKb (nsK hns)).run callerA [] s₁ H ⟨[.ref a], []⟩ [.ref a] [.ref a] _ _ hr e0 (hbind s₁ (.ref a)) (.cons rfl .nil) (hsp H hO hS)) fun r s' h => ?_
    cases r with
    | error e => exact (hCX H e s' h).elim
    | ok fl =>
      cases fl with
      | next => exact False.elim h
      | brk => exact False.elim h
      | cont => exact False.elim h
      | ret u =>
        obtain ⟨v, H', os, bare, un, hok', r', q⟩ := h
        have q' : v = .bl true := q
        subst q'
        obtain rfl : u = Value.bool true := r'
        refine ⟨rfl, OldK.of_keep fun b o e => ?_, os, bare⟩
        cases q : H b with
        | none => exact un.keep b o e q (by intro z; exact absurd (show b ∈ ([] : List Addr) from z) (by simp)) (by simp)
        | some u =>
          rcases hO b with z | ⟨ob, xs, z⟩
          · rw [q] at z; cases z
          · have z2 := un.frzs b ob _ z
            obtain ⟨e1, _⟩ := hok b _ z
            obtain ⟨e2, _⟩ := hok' b _ z2
            rw [e] at e1; cases e1
            exact e2
  cases hk : K.lookup a with
  | some o =>
    -- the script is one of the module's own objects
    have e := KX a o hk
    rw [ha] at e
    cases e
    refine core (fun _ => none) (fun _ => .inl rfl) (.inr ⟨_, vs.toArray, _, hk, rfl, rfl, rfl, by rw [List.size_toArray, lenV]; exact hl, by simpa using rv⟩) (fun b u z => by have z' : (none : Option HO) = some u := z; cases z') (fun b z => absurd rfl z) fun z => absurd rfl z
  | none =>
    refine core (fun b => if b = a then some (.frz { cls := .type "list", data := .seq vs.toArray } (.lst (ns.map V.int))) else none) (fun b => ?_) (.inl (.inr ⟨{ cls := .type "list", data := .seq vs.toArray }, if_pos rfl⟩)) (fun b u z => ?_) (fun b z => ?_) fun _ => hk
    · by_cases hb : b = a
      · exact .inr ⟨_, _, if_pos hb⟩
      · exact .inl (if_neg hb)
    · by_cases hb : b = a
      · have z' := (if_pos hb).symm.trans z
        cases z'
        subst hb
        exact ⟨ha, by rw [List.length_map]; exact hl, vs, _, rv, ha⟩
      · have z' := (if_neg hb).symm.trans z
        cases z'
    · by_cases hb : b = a
      · exact hb
      · exact absurd (if_neg hb) z
end L2
namespace L2
open PySem PySem.Spec PyProof.Rows
theorem walk_of {l : PySem.W.OpenLaw} {n k : Nat} {q : Program} {loose : List Str} {XP : (Str → Option Value) → Heap → Prop} {YP : World → Heap → Prop} {d : DefRec} {K : Params → PySem.W.Frag} {CX : World → CXT} {sp : World → Sp} {x : Str}
    (hn : l.most = some n) (hn2 : n ≤ sizeLine) (hdf : d.params.defaults = []) (hr : Room k callerA)
    (hY : ∀ (w : World) (h : Heap), YP w h → (K w.params).In h)
    (F : ∀ (w : World) (mg : Str → Option Value) (fa : Addr) (h : Heap), (K w.params).In h → h.Ns mainGlobals mg → mg d.name = some (.ref fa) →
      ∃ fd : FuncData, (∀ (s : Shared) (u : Value), BindsTo s fd ⟨[u], []⟩ [(x, u)]) ∧
        ∀ base : Heap, (K w.params).In base → base.Ns mainGlobals mg → FnOk l.prog w (K w.params) mg base (CX w) k fa fd [x] (sp w))
    (hsp : ∀ (w : World) (H : Hp) (a : Addr) (ns : List Int), ns.length ≤ n → Only H → SqL (K w.params) H a (ns.map V.int) → sp w [.ref a] H (fun v _ => v = .bl true) fun _ _ _ => False)
    (hCX : ∀ (w : World) (H : Hp) (s : Shared) (e : Value) (s' : Shared), CX w [] H s (fun _ _ _ => False) e s' → False) :
    PySem.W.WalkO q loose XP YP l.row.toRowW d [] (fun f vs => PySem.call f vs) := by
  refine Att.attach_call hn hdf fun w s₀ s₁ mg mb fa o pm cd doc a vs ns G Y ho hd hcd hmg hobj hints hlen hg => ?_
  have KX := hY w _ Y
  obtain ⟨fd, hb, hF⟩ := F w mg fa _ KX G.T.g hmg
  exact law_call KX G.T.g G.T.b G.T.builtins G.T.nolimit hg hobj hints (Nat.le_trans hlen hn2) hr hF hb (fun H hO hS => hsp w H a ns hlen hO hS) fun H e s' => hCX w H s₁ e s'
theorem walk_ofK {l : PySem.W.OpenLaw} {n k : Nat} {q : Program} {loose : List Str} {XP : (Str → Option Value) → Heap → Prop} {YP : World → Heap → Prop} {d : DefRec} {K : Params → PySem.W.Frag} {CX : CXT} {sp : PySem.W.Frag → Sp} {x : Str}
    (hn : l.most = some n) (hn2 : n ≤ sizeLine) (hdf : d.params.defaults = []) (hr : Room k callerA)
    (hY : ∀ (w : World) (h : Heap), YP w h → (K w.params).In h)
    (F : ∀ (w : World) (mg : Str → Option Value) (fa : Addr) (h : Heap), (K w.params).In h → h.Ns mainGlobals mg → mg d.name = some (.ref fa) →
      ∃ fd : FuncData, (∀ (s : Shared) (u : Value), BindsTo s fd ⟨[u], []⟩ [(x, u)]) ∧
        ∀ base : Heap, (K w.params).In base → base.Ns mainGlobals mg → FnOk l.prog w (K w.params) mg base CX k fa fd [x] (sp (K w.params)))
    (hsp : ∀ (K : PySem.W.Frag) (H : Hp) (a : Addr) (ns : List Int), ns.length ≤ n → Only H → SqL K H a (ns.map V.int) → sp K [.ref a] H (fun v _ => v = .bl true) fun _ _ _ => False)
    (hCX : ∀ (H : Hp) (s : Shared) (e : Value) (s' : Shared), CX [] H s (fun _ _ _ => False) e s' → False) :
    PySem.W.WalkO q loose XP YP l.row.toRowW d [] (fun f vs => PySem.call f vs) :=
  walk_of (K := K) (CX := fun _ => CX) (sp := fun w => sp (K w.params)) hn hn2 hdf hr hY F (fun w H a ns h1 h2 h3 => hsp (K w.params) H a ns h1 h2 h3) fun _ H s e s' => hCX H s e s'
end L2
namespace L2
open PySem PySem.Spec PyProof.Rows
def defArgs (s : Stmt) : Arguments := match s with
  | .FunctionDef _ a _ _ _ _ _ _ _ _ => a
  | _ => { posonlyargs := [], args := [], vararg := none, kwonlyargs := [], kw_defaults := [], kwarg := none, defaults := [] }
def defBody (s : Stmt) : List Stmt := match s with
  | .FunctionDef _ _ b _ _ _ _ _ _ _ => b
  | _ => []
def defScope (s : Stmt) : Scope := match s with
  | .FunctionDef _ _ _ _ _ _ sc _ _ _ => sc
  | _ => { kind := .function, names := [], isGenerator := false, isCoroutine := false }
abbrev CX0 : CXT := fun _ _ _ _ _ _ => False
abbrev E0 : XK := fun _ _ _ => False
theorem pass0 {X : Cx} : Passes CX0 X E0 := fun _ _ _ _ _ _ _ h => h.elim
structure Fun (K : PySem.W.Frag) (x qual : Str) (st : Stmt) (f : Addr) (fd : FuncData) : Prop where
  ex : ∃ (oc : Value) (od : Option Addr) (kV doc pm : Value) (an : Option Addr) (cdv ct : Value) (osl : Array (Option Value)),
    fd = PySem.W.fnOf x qual (defArgs st) (defBody st) (defScope st) .none kV doc pm an cdv ct ∧ K.lookup f = some ⟨oc, od, .func fd, osl⟩ ∧ PySem.W.codeIn K cdv qual = true
  kp : PySem.W.keepIn K (.ref f) = true
section
variable {P : Program} {w : World} {K : PySem.W.Frag} {mg : Str → Option Value} {base : Heap}
theorem Fun.ok {x qual : Str} {st : Stmt} {f : Addr} {fd : FuncData} {N ps : List Str} {k : Nat} {sp : Sp} (F : Fun K x qual st f fd) (S : FnScope N ps (defScope st)) (len : ∀ vs H Q E, sp vs H Q E → vs.length = ps.length)
    (hbody : ∀ (cdv : Value) (A : Around) (outer : List Env) (s : Shared) (H : Hp) (vs : List V) (Q : VK) (E : XK), Room k (A.deeper (envOfC qual (defScope st) s.heap.objs.size f cdv)) → sp vs H Q E →
      ∃ t, PSs (cxOf CX0 P w K mg base N qual (defScope st) f cdv A outer s H E).nox (defBody st) t ∧ t { nx := fun _ H' => Q .non H', rt := Q } (start N vs) H) : FnOk P w K mg base CX0 (k + 1) f fd ps sp := by
  obtain ⟨oc, od, kV, doc, pm, an, cdv, ct, osl, rfl, lk, hcd⟩ := F.ex
  refine fn_of lk hcd S len fun A outer s H vs Q E hr hsp => ?_
  obtain ⟨t, h, q⟩ := hbody cdv A outer s H vs Q E hr hsp
  exact ⟨t, h.nox, q⟩
theorem Fun.binds {x qual : Str} {st : Stmt} {f : Addr} {fd : FuncData} {ps : List Str} (F : Fun K x qual st f fd)
    (h : ∀ (kV doc pm : Value) (an : Option Addr) (cdv ct : Value) (us : List Value), us.length = ps.length → bindArgs (PySem.W.fnOf x qual (defArgs st) (defBody st) (defScope st) .none kV doc pm an cdv ct) ⟨us, []⟩ = pure (ps.zip us)) : Binds K fd ps [] := by
  obtain ⟨oc, od, kV, doc, pm, an, cdv, ct, osl, rfl, lk, hcd⟩ := F.ex
  exact .all (h kV doc pm an cdv ct)
theorem fun_mk {x qual : Str} {st : Stmt} {f : Addr} {oc : Value} {od an : Option Addr} {osl : Array (Option Value)} {kV doc pm cdv ct : Value} (l : K.lookup f = some ⟨oc, od, .func (PySem.W.fnOf x qual (defArgs st) (defBody st) (defScope st) .none kV doc pm an cdv ct), osl⟩)
    (c : PySem.W.codeIn K cdv qual = true) (k : PySem.W.keepIn K (.ref f) = true) : Fun K x qual st f (PySem.W.fnOf x qual (defArgs st) (defBody st) (defScope st) .none kV doc pm an cdv ct) := ⟨⟨oc, od, kV, doc, pm, an, cdv, ct, osl, rfl, l, c⟩, k⟩
end
section
variable {X : Cx}
theorem pv (i : Nat) {x : Str} {pos : Pos} (hN : X.N[i]? = some x := by rfl) (hv : Vis X.env.scope x := by first | exact Or.inl rfl | exact Or.inr (Or.inl rfl) | exact Or.inr (Or.inr rfl)) (hd : (x == ("__debug__" : Str)) = false := by decide)
    (hcd : (x == ("__classdict__" : Str)) = false := by decide) : PE X (.Name x pos) (tVar i) := pe_var hN hv hd hcd
end
theorem iteF {A B : Prop} (h : B) : if false = true then A else B := by
  rw [if_neg Bool.false_ne_true]
  exact h
theorem iteT {A B : Prop} (h : A) : if true = true then A else B := by
  rw [if_pos rfl]
  exact h
theorem ite2 {c A B : Prop} [Decidable c] (h1 : c → A) (h2 : ¬ c → B) : if c then A else B := by
  by_cases h : c
  · rw [if_pos h]
    exact h1 h
  · rw [if_neg h]
    exact h2 h
def Same (H H' : Hp) : Prop := ∀ b o, H b = some o → H' b = some o
theorem Same.refl (H : Hp) : Same H H := fun _ _ h => h
theorem Same.trans {H H1 H2 : Hp} (a : Same H H1) (b : Same H1 H2) : Same H H2 := fun c o h => b c o (a c o h)
theorem Same.free {H H' : Hp} (e : Same H H') {l : Addr} (h : H' l = Option.none) : H l = Option.none := by
  cases q : H l with
  | none => rfl
  | some o =>
    rw [e l o q] at h
    cases h
theorem Same.seq {K : PySem.W.Frag} {H H' : Hp} {a : Addr} {xs : List V} (e : Same H H') (h : SqL K H a xs) : SqL K H' a xs := by
  rcases h with (h | ⟨o, h⟩) | h
  · exact .inl (.inl (e _ _ h))
  · exact .inl (.inr ⟨o, e _ _ h⟩)
  · exact .inr h
end L2
set_option Elab.async false
set_option linter.all false
set_option maxRecDepth 100000
namespace L2
open PySem PySem.Spec PyProof.Rows
theorem PS.nox {X : Cx} {st : Stmt} {t : TS} (h : PS X.nox st t) : PS X st t := fun pins s σ H D I hw =>
  wpAny_mono (h pins s σ H D (I.wish _) hw) (fun _ _ q => q.unwish) fun _ _ z => False.elim z
theorem ObjOk.some_ {P : Program} {w : World} {H : Hp} {h : Heap} {a : Addr} {o : HO} (x : ObjOk P w H h a o) : ∃ ob, h.get? a = some ob := by
  cases o with
  | lst xs => obtain ⟨_, _, _, _, e⟩ := x; exact ⟨_, e⟩
  | tup xs => obtain ⟨_, _, _, ob, e, _⟩ := x; exact ⟨_, e⟩
  | dK kvs => obtain ⟨_, _, _, _, o, _, _, e, _⟩ := x; exact ⟨_, e⟩
  | dT kvs => obtain ⟨_, _, _, _, o, _, _, e, _⟩ := x; exact ⟨_, e⟩
  | set S n => obtain ⟨o, _, _, _, e, _⟩ := x; exact ⟨_, e⟩
  | ins C dx fs => obtain ⟨_, _, _, e, _⟩ := x; exact ⟨_, e⟩
  | own y => obtain ⟨_, e⟩ := x; exact ⟨_, e⟩
  | xd fs => obtain ⟨_, ⟨_, _, _, e, _⟩, _⟩ := x; exact ⟨_, e⟩
  | rng lo hi => obtain ⟨_, _, _, e⟩ := x; exact ⟨_, e⟩
  | frz ob u => obtain ⟨e, _⟩ := x; exact ⟨_, e⟩
  | tbl ps => exact ⟨_, (show h.get? a = some _ from x)⟩
  | met f y => exact ⟨_, (show h.get? a = some _ from x)⟩
  | ext φ => obtain ⟨_, ⟨_, e⟩, _⟩ := x; exact ⟨_, e⟩
theorem Inv.there {X : Cx} {pins : List (Addr × Obj)} {σ : St} {H : Hp} {s : Shared} (I : Inv X pins σ H s) {a : Addr} {o : HO} (e : H a = some o) : ∃ ob, s.heap.get? a = some ob := (I.hok a o e).some_
theorem Inv.none_of {X : Cx} {pins : List (Addr × Obj)} {σ : St} {H : Hp} {s : Shared} (I : Inv X pins σ H s) {a : Addr} (e : s.heap.get? a = none) : H a = none := by
  cases q : H a with
  | none => rfl
  | some o =>
    obtain ⟨ob, z⟩ := I.there q
    rw [e] at z
    cases z
structure Fly (h0 h : Heap) (H : Hp) (C ea T : Addr) : Prop where
  ob : ∃ (oe : Obj) (vs : Array Value) (a0 : Value) (oT : Obj) (ts : Array Value), h.get? ea = some oe ∧ oe.cls = .ref C ∧ oe.data = .fields vs ∧ vs[0]? = some a0 ∧ vs[1]? = some (.ref T) ∧ h.get? T = some oT ∧ oT.data = .fields ts ∧ ts[3]? = some .none
  ne : T ≠ ea
  fe : H ea = none
  fT : H T = none
  ne0 : h0.get? ea = none
  nT0 : h0.get? T = none
def CXE (P : Program) (w : World) : CXT := fun outer H s E e s' => ∃ (ea T C : Addr) (H' : Hp), e = .ref ea ∧ s'.os = s.os ∧ AllBare s'.gens ∧ Un (frs outer) [] H H' s.heap s'.heap ∧ HOk P w H' s'.heap ∧ Fly s.heap s'.heap H' C ea T ∧ E (.ref C) none H'
theorem passE0 {P : Program} {w : World} {X : Cx} : Passes (CXE P w) X E0 := fun _ _ _ _ _ _ _ ⟨_, _, _, _, _, _, _, _, _, _, z⟩ => z.elim
structure Exc (K : PySem.W.Frag) (mg : Str → Option Value) (x : Str) (C : Addr) : Prop where
  bound : mg x = some (.ref C)
  ex : PySem.W.excIn K C [.type "ValueError", .type "Exception", .type "BaseException", .type "object"] "ValueError.__new__" = true
theorem exc_obj {K : PySem.W.Frag} {h : Heap} {C : Addr} {bmB : List Value} {newId : String} (X : K.In h) (q : PySem.W.excIn K C bmB newId = true) :
    ∃ bm N nm qn bs hdct sn sub ab col dd k0 k1 k2 k3 k5 mN, h.get? C = some (excClassObj nm qn C N bs bm hdct sn sub ab col dd k0 k1 k2 k3 k5 newId) ∧ h.Ns N mN ∧ mN "__init__" = none ∧ OwnTail h bmB bm := by
  unfold PySem.W.excIn at q
  split at q
  case h_2 => cases q
  case h_1 dd cd sl ho =>
    split at q
    case h_2 => cases q
    case h_1 C' bm k0 k1 k2 k3 n k5 hm hs =>
      simp only [Bool.and_eq_true, beq_iff_eq, Bool.not_eq_true'] at q
      obtain ⟨⟨⟨⟨⟨e1, e2⟩, e3⟩, e4⟩, e5⟩, e6⟩ := q
      subst e1 e2
      cases cd with
      | mk nm bs mro ns qn hd sn sub ab col del =>
        have hsl : sl = #[k0, k1, k2, k3, some (.builtin n), k5] := by rw [← Array.toList_inj]; exact hs
        simp only at hm e3 e5 e6
        subst hm e3 hsl
        exact ⟨bm, ns, nm, qn, bs, hd, sn, sub, ab, col, dd, k0, k1, k2, k3, k5, _, X _ _ ho, .of_isNs (PySem.W.isNs_of_in X e5), PySem.W.nsMap_none_of_in X e5 e6, PySem.W.tail_of_in X e4⟩
def tRaise (C : Addr) (t : TA) (E : XK) : TS := fun _ σ H => t σ H fun xs H1 => xs.length ≤ sizeLine ∧ E (.ref C) none H1
theorem Inv.hid {X : Cx} {pins : List (Addr × Obj)} {σ : St} {H : Hp} {s : Shared} (I : Inv X pins σ H s) (as : List Addr) (hs : ∀ b ∈ frs X.stack, b ∈ as) : s.heap.FunFrames (PySem.W.hideAll s.heap as) X.stack :=
  PySem.W.funFrames_hide I.stack fun env he a hf => hs a (List.mem_filterMap.mpr ⟨env, he, hf⟩)
section
variable {P : Program} {w : World} {K : PySem.W.Frag} {mg : Str → Option Value} {base : Heap} {N : List Str} {qual : Str} {scope : Scope} {f : Addr} {cd : Value} {A : Around} {outer : List Env} {s₀ : Shared} {H₀ : Hp} {E : XK}
theorem leaves_made {pins : List (Addr × Obj)} {σ : St} {H : Hp} {s : Shared} {C e : Addr} {vs : List Value} {h' : Heap} (I : Inv (cxOf (CXE P w) P w K mg base N qual scope f cd A outer s₀ H₀ E) pins σ H s)
    (hx : Heap.MadeExcOf s.heap h' e (.ref C) vs) (q : E (.ref C) none H) : (cxOf (CXE P w) P w K mg base N qual scope f cd A outer s₀ H₀ E).xe (.ref e) { s with heap := h' } := by
  have hin : ∀ b ∈ frs (envOfC qual scope s₀.heap.objs.size f cd :: outer), b ∈ frs (envOfC qual scope s₀.heap.objs.size f cd :: outer) := fun _ z => z
  have ff := I.hid _ hin
  show wpAny _ _ (leaving _ _) _ _ _
  refine wpAny_leaves_madeW (base := PySem.W.hideAll s.heap (frs (envOfC qual scope s₀.heap.objs.size f cd :: outer))) (h := s.heap) I.ok.frames rfl (fun b o z => PySem.W.of_hideAll _ z) ff hx fun h2 t fl tt tn up => ?_
  have inB : ∀ b o, b ∉ frs (envOfC qual scope s₀.heap.objs.size f cd :: outer) → s.heap.get? b = some o → h2.get? b = some o := fun b o nb z => fl.1 b o (PySem.W.hideAll_get _ z nb)
  have upS : ∀ b o, b ∈ frs (envOfC qual scope s₀.heap.objs.size f cd :: outer) → s.heap.get? b = some o → ∃ sl, h2.get? b = some { o with slots := sl } := fun b o nb z => by
    obtain ⟨_, o', z', hd⟩ := I.stack.mem nb
    rw [z] at z'
    cases z'
    exact up b o (hx.keeps b o z) hd
  have notL : ∀ b o, s₀.heap.get? b = some o → b ∉ frs outer → b ∉ frs (envOfC qual scope s₀.heap.objs.size f cd :: outer) := fun b o z nb m => by
    rcases List.mem_cons.mp (I.stkSub b m) with z' | z'
    · have := Heap.lt_size z
      have z' : b = s₀.heap.objs.size := z'
      rw [z'] at this
      exact Nat.lt_irrefl _ this
    · exact nb z'
  have thr : ∀ b o, s.heap.get? b = some o → ∃ o', h2.get? b = some o' := fun b o z => by
    by_cases hb : b ∈ frs (envOfC qual scope s₀.heap.objs.size f cd :: outer)
    · obtain ⟨sl, z'⟩ := upS b o hb z
      exact ⟨_, z'⟩
    · exact ⟨o, inB b o hb z⟩
  obtain ⟨_, _, _, oe, vs', T, oT, ts, a1, ⟨a2, a3⟩, a4, a5, a6, a7, a8, a9, a10⟩ := fl
  have noT : s.heap.get? T = none := by
    cases z : s.heap.get? T with
    | none => rfl
    | some o =>
      by_cases hb : T ∈ frs (envOfC qual scope s₀.heap.objs.size f cd :: outer)
      · obtain ⟨_, o', z', hd⟩ := I.stack.mem hb
        obtain ⟨sl, z2⟩ := upS T o hb z
        rw [z] at z'
        cases z'
        rw [a8] at z2
        cases z2
        exact absurd a9 (hd ts)
      · rw [PySem.W.hideAll_get _ z hb] at a6
        cases a6
  have no0 : ∀ b, s.heap.get? b = none → s₀.heap.get? b = none := fun b z => by
    cases y : s₀.heap.get? b with
    | none => rfl
    | some o =>
      obtain ⟨o', z'⟩ := I.base.there b o y (fun m => nomatch m)
      rw [z] at z'
      cases z'
  refine ⟨e, T, C, H, rfl, I.os, I.bare, ⟨fun b o z n nb _ => ?_, fun b o z n nb _ => ?_, fun b o z n _ => I.base.free b o z n (fun m => nomatch m), fun b o z _ => ?_, I.base.tups, I.base.frzs, I.base.tbls⟩, fun a o z => ?_,
    ⟨⟨oe, vs', .ref t, oT, ts, a1, a2, a4, a3, a5, a8, a9, a10⟩, a7, I.none_of hx.new, I.none_of noT, no0 _ hx.new, no0 _ noT⟩, q⟩
  · exact inB b o (notL b o z nb) (I.base.keep b o z n nb (fun m => nomatch m))
  · obtain ⟨sl, z1⟩ := I.base.slot b o z n nb (fun m => nomatch m)
    obtain ⟨sl', z2⟩ := upS b _ (by
      show b ∈ frs _
      unfold frs
      rw [List.filterMap_cons]
      exact List.mem_cons_of_mem _ nb) z1
    exact ⟨sl', z2⟩
  · obtain ⟨o', z'⟩ := I.base.there b o z (fun m => nomatch m)
    exact thr b o' z'
  · refine (I.hok a o z).stay (fun b u hb r => ?_) (fun _ y => y) fun _ _ y => y
    refine inB b u (fun m => ?_) r
    have := I.stkFree b m
    rcases hb with rfl | hb
    · rw [z] at this; cases this
    · rw [hb] at this; cases this
theorem ps_raise {x : Str} {C : Addr} {e : Expr} {es : List Expr} {t : TA} {np cpos pos : Pos} (ex : Exc K mg x C) (hh : A.handled = none) (hg : Gl (cxOf (CXE P w) P w K mg base N qual scope f cd A outer s₀ H₀ E) x)
    (ha : PA (cxOf (CXE P w) P w K mg base N qual scope f cd A outer s₀ H₀ E) (e :: es) t)
    (hs : starEach (e :: es) (envOfC qual scope s₀.heap.objs.size f cd) = (false, eval e (envOfC qual scope s₀.heap.objs.size f cd)) :: starEach es (envOfC qual scope s₀.heap.objs.size f cd) := by rfl)
    (hpl : (backTo cpos (starEach es (envOfC qual scope s₀.heap.objs.size f cd))).any (·.1) = false := by rfl) (hd : (x == ("__debug__" : Str)) = false := by decide) :
    PS (cxOf (CXE P w) P w K mg base N qual scope f cd A outer s₀ H₀ E) (.Raise (some (.Call (.Name x np) (e :: es) [] cpos)) none pos) (tRaise C t E) := by
  intro pins s σ H D I h
  obtain ⟨bm, N', nm, qn, bs, hdct, sn, sub, ab, col, dd, k0, k1, k2, k3, k5, mN, hC, hN, hni, TL⟩ := exc_obj (h := base) I.mod.kin ex.ex
  refine wpAny_Raise_call_subT (C := C) (nm := nm) (q := qn) (N := N') (bs := bs) (bm := bm) (hdct := hdct) (sn := sn) (sub := sub) (ab := ab) (col := col) (dd := dd) (k0 := k0) (k1 := k1) (k2 := k2) (k3 := k3) (k5 := k5)
    PySem.F.excBase_ValueError (mN := mN) (TL.hasType PySem.F.excBase_ValueError.hasBase) hh (by
      show (backTo cpos (starEach (e :: es) (envOfC qual scope s₀.heap.objs.size f cd))).any (·.1) = false
      rw [hs]
      show (false || (backTo cpos (starEach es (envOfC qual scope s₀.heap.objs.size f cd))).any (·.1)) = false
      rw [hpl]
      rfl) hni (ld_glob I hg ex.bound ⟨rfl, ?_⟩ hd)
  have h1 := ha cpos pins s σ H _ I h
  show wpAny _ _ (evalArgs (.ref C) true (backTo cpos (starEach (e :: es) (envOfC qual scope s₀.heap.objs.size f cd))) []) _ _ _
  have h1 : wpAny _ _ (spliced (backTo cpos (starEach (e :: es) (envOfC qual scope s₀.heap.objs.size f cd)))) _ _ s := h1
  rw [hs] at h1 ⊢
  refine Calls.evalArgs_plain (wpAny_mono h1 (fun us s2 ⟨xs, H2, I2, r, z, q⟩ => ⟨rfl, ?_, I2.bk _ _ hC, hN.keeps I2.bk, TL.keeps I2.bk, fun h' e' hx => ?_⟩) fun _ _ y => y)
  · rw [← r.length]; exact z
  · exact leaves_made I2 hx q
end
theorem Fun.okE {P : Program} {w : World} {K : PySem.W.Frag} {mg : Str → Option Value} {base : Heap} {x qual : Str} {st : Stmt} {f : Addr} {fd : FuncData} {N ps : List Str} {k : Nat} {sp : Sp} (F : Fun K x qual st f fd) (S : FnScope N ps (defScope st)) (len : ∀ vs H Q E, sp vs H Q E → vs.length = ps.length)
    (hbody : ∀ (cdv : Value) (A : Around) (outer : List Env) (s : Shared) (H : Hp) (vs : List V) (Q : VK) (E : XK), Room k (A.deeper (envOfC qual (defScope st) s.heap.objs.size f cdv)) → A.handled = none → sp vs H Q E →
      ∃ t, PSs (cxOf (CXE P w) P w K mg base N qual (defScope st) f cdv A outer s H E) (defBody st) t ∧ t { nx := fun _ H' => Q .non H', rt := Q } (start N vs) H) : FnOk P w K mg base (CXE P w) (k + 1) f fd ps sp := by
  obtain ⟨oc, od, kV, doc, pm, an, cdv, ct, osl, rfl, lk, hcd⟩ := F.ex
  exact fn_of lk hcd S len fun A outer s H vs Q E hr hsp => hbody cdv A outer s H vs Q E hr hr.hd hsp
end L2
set_option Elab.async false
set_option linter.all false
set_option maxRecDepth 100000
namespace L2
open PySem PySem.Spec PyProof.Rows
theorem Inv.track {X : Cx} {pins : List (Addr × Obj)} {σ : St} {H : Hp} {s : Shared} {p : Addr} {o : HO} (I : Inv X pins σ H s) (hn : H p = none) (h0 : X.s₀.heap.get? p = none) (hl : p ≠ X.env.locals)
    (hc : ∀ x c, X.env.cells.lookup x = some c → c ≠ p) (hp : ∀ q ∈ X.pn ++ pins, q.1 ≠ p) (new : ObjOk X.prog X.w (upd H p o) s.heap p o) : Inv X pins σ (upd H p o) s where
  ok := I.ok
  os := I.os
  bare := I.bare
  base := ⟨I.base.keep, I.base.slot, fun b ob e n hx => by
      rw [upd_ne (fun z => by rw [z, h0] at e; cases e)]
      exact I.base.free b ob e n hx, I.base.there,
    fun b xs e => by rw [upd_ne (ne_of_none (I.base.tups b xs e) hn)]; exact I.base.tups b xs e,
    fun b ob u e => by rw [upd_ne (ne_of_none (I.base.frzs b ob u e) hn)]; exact I.base.frzs b ob u e,
    fun b ps e => by
      obtain ⟨m, z⟩ := I.base.tbls b ps e
      exact ⟨m, by rw [upd_ne (ne_of_none z hn)]; exact z⟩⟩
  loc := I.loc
  cell := I.cell
  free := by rw [upd_ne hl.symm]; exact I.free
  freeC := fun x c e => by rw [upd_ne (hc x c e)]; exact I.freeC x c e
  pin := fun q m => by
    obtain ⟨a, b, c⟩ := I.pin q m
    exact ⟨a, by rw [upd_ne (hp q m)]; exact b, c⟩
  hok := fun b u e => by
    by_cases hb : b = p
    · subst hb
      rw [upd_same] at e
      cases e
      exact new
    · rw [upd_ne hb] at e
      exact (I.hok b u e).stay (fun _ _ _ q => q) (fun c q => by rw [upd_ne (ne_of_none q hn)]; exact q) fun c xs q => by rw [upd_ne (ne_of_none q hn)]; exact q
  len := I.len
end L2
set_option Elab.async false
set_option linter.all false
set_option maxRecDepth 100000
namespace L2
open PySem PySem.Spec PyProof.Rows
theorem getD_at {α : Type} {xs : List α} {i : Nat} {d : α} (h : i < xs.length) : xs.getD i d = xs[i] := by
  rw [List.getD_eq_getElem?_getD, List.getElem?_eq_getElem h]
  rfl
section
variable {X : Cx}
theorem nums_of {ns : List Int} {its : List Value} (r : Vals (ns.map V.int) its) : ∀ (i : Nat) (v : Value), its.toArray[i]? = some v → ∃ t, v = Value.int (ns.getD i 0) t := by
  intro i v e
  rw [List.getElem?_toArray] at e
  have hl := r.length
  have hi : i < its.length := (List.getElem?_eq_some_iff.mp e).1
  rw [List.length_map] at hl
  have hx : (ns.map V.int)[i]? = some (.int (ns.getD i 0)) := by
    rw [List.getElem?_map, List.getElem?_eq_getElem (by omega)]
    simp [List.getD, show i < ns.length by omega]
  obtain ⟨u, hu, ru⟩ := r.get hx
  rw [e] at hu
  cases hu
  exact ru
theorem best_mem {ns : List Int} {k : Nat} (h : k < ns.length) : ns.getD k 0 ∈ ns := by
  rw [getD_at h]
  exact List.getElem_mem h
theorem mem_at {ns : List Int} {z : Int} (h : z ∈ ns) : ∃ j, j < ns.length ∧ ns.getD j 0 = z := by
  obtain ⟨j, hj, e⟩ := List.mem_iff_getElem.mp h
  exact ⟨j, hj, by rw [getD_at hj]; exact e⟩
theorem val_at {xs : List V} {us : List Value} (r : Vals xs us) {j : Nat} (h1 : j < us.length) : RelV (xs.getD j .non) us[j] := by
  have hl := r.length
  obtain ⟨u, hu, ru⟩ := r.get (i := j) (x := xs.getD j .non) (by rw [List.getElem?_eq_getElem (by omega), getD_at (by omega)])
  rw [List.getElem?_eq_getElem h1] at hu
  cases hu
  exact ru
end
end L2
set_option linter.all false
namespace Srt
open PySem.W PyProof.Rows
end Srt
set_option Elab.async false
set_option linter.all false
set_option maxRecDepth 100000
namespace L2
open PySem PySem.Spec PyProof.Rows PySem.W
section
variable {X : Cx} {pins : List (Addr × Obj)} {σ : St} {H : Hp} {s : Shared}
structure Young (X : Cx) (pins : List (Addr × Obj)) (b : Addr) : Prop where
  lo : b ≠ X.env.locals
  fs : b ∉ X.fs
  ge : b ∈ X.ex ∨ X.s₀.heap.objs.size ≤ b
  ce : ∀ x c, X.env.cells.lookup x = some c → c ≠ b
  pi : ∀ p ∈ X.pn ++ pins, p.1 ≠ b
theorem Inv.young (I : Inv X pins σ H s) {b : Addr} (hb : s.heap.objs.size ≤ b) : Young X pins b := by
  obtain ⟨_, a1, a2, a3, a4, a5⟩ := I.fpOk (b := b) hb (H' := fun _ => none) rfl
  exact ⟨a1, a2, a3, a4, a5⟩
theorem Inv.record (I : Inv X pins σ H s) {b : Addr} {h' : Heap} (y : Young X pins b) (hn : H b = none) (hs : Heap.SameBut b s.heap h') : Inv X pins σ H { s with heap := h' } :=
  I.turned (t' := s.toks) (fun c o nc e => (hs.2 c nc).trans e) hn y.lo y.ge y.ce y.pi
end
end L2
set_option Elab.async false
set_option linter.all false
set_option maxRecDepth 100000
namespace L2
open PySem PySem.Spec PyProof.Rows PySem.W
end L2
set_option Elab.async false
set_option linter.all false
set_option maxRecDepth 100000
namespace L2
open PySem PySem.Spec PyProof.Rows PySem.W Builtin.Getset_descriptor
def ExcIs (ea C : Addr) : Heap → Prop := fun h => ∃ o, h.get? ea = some o ∧ o.cls = .ref C
theorem ExcIs.ok {P : Program} {w : World} {H : Hp} {h : Heap} {ea C : Addr} (x : ExcIs ea C h) : ObjOk P w H h ea (.ext (ExcIs ea C)) :=
  ⟨x, let ⟨o, e, _⟩ := x; ⟨o, e⟩, fun _ _ ⟨o, e, c⟩ k => ⟨o, k o e, c⟩⟩
theorem ExcIs.ty {M : Model} {h : Heap} {ea C : Addr} (x : ExcIs ea C h) : Looks M h (typeOf (.ref ea)) (.ref C) := by
  obtain ⟨o, e, c⟩ := x
  rw [← c]
  exact (Looks.ld e).andThen .now
section
variable {prog : Program} {w : World} {A : Around} {E : Value → Shared → Prop} {K : Frag} {x C : Addr}
theorem exc_class_get {s : Shared} {tp : Value} {R : Result → Shared → Prop} (X : K.In s.heap) (J : ExcIs x C s.heap) (hm : mroIn K C (.type "object") = some true) (q : R (.ok (.ret (.ref C))) s) :
    codeAny (model prog w) A (.call (.builtin "getset_descriptor.__get__") ⟨[.builtin "object.__class__", .ref x, tp], []⟩) R s := by
  obtain ⟨h0, g0, d0, t0, o0⟩ := s
  have LT := J.ty (M := model prog w)
  have LM := looks_mroIn (M := model prog w) X hm
  refine codeAny_call_builtin KF.slot_gs.plain KF.entry_gs ?_
  refine KF.slot_gs.check _ _ _ _ _ _ _ _ KF.type_class (KF.args_gs _ _ _) ?_
  unfold Builtin.«getset_descriptor.__get__»
  unfold descrGet
  rw [dga_obj]
  refine wpAny_bind ?_
  refine wpAny_pure ?_
  unfold descrGetter
  unfold descrCheckInstance
  unfold descrNameAndClass
  unfold isInstance
  simp only [KF.owner_class]
  repeat lk
  refine ⟨Code.quiet_builtin _ (by decide +kernel), ?_⟩
  refine codeAny_builtin KF.entry_class ?_
  unfold Builtin.«object.__class__»
  unfold shownTypeOf
  repeat lk
  exact q
structure ExcCls (K : Frag) (C : Addr) : Prop where
  ga : findIn K (.ref C) "__getattribute__" = some (some (.builtin "BaseException.__getattribute__"))
  gn : findIn K (.ref C) "__getattr__" = some none
  ha : findIn K (.ref C) "__class__" = some (some (.builtin "object.__class__"))
  hn : specialIn K (.builtin "object.__class__") "__get__" = some (some (.builtin "getset_descriptor.__get__"))
  tk : takesIn K (.builtin "object.__class__") = some true
  mo : mroIn K C (.type "object") = some true
  mb : mroIn K C (.type "BaseException") = some true
  ty : typeIn K (.ref C) = some (.type "type")
  cl : (clsIn K C).isSome = true
theorem exc_find {M : Model} {h : Heap} (X : K.In h) (J : ExcIs x C h) (c : ExcCls K C) : Looks M h (Builtin.ObjectAttr.find (.ref x) (.ref C) "__class__") (.bind (.builtin "getset_descriptor.__get__") (.builtin "object.__class__")) := by
  have L1 := looks_findIn (M := M) X c.ha
  have L2 : Looks M h (Builtin.ObjectAttr.getOf (some (.builtin "object.__class__"))) (some (.builtin "getset_descriptor.__get__")) := looks_specialIn X c.hn
  have L3 := looks_takesIn (M := M) X c.tk
  exact L1.andThen (L2.andThen ((show Looks M h (Builtin.ObjectAttr.dataDescriptor? (some (.builtin "object.__class__")) (some (.builtin "getset_descriptor.__get__"))) (some (.builtin "getset_descriptor.__get__", .builtin "object.__class__")) from L3.andThen .now).andThen (Looks.tag .now)))
theorem exc_entry {s : Shared} {tk : Tok} {R : Result → Shared → Prop} (X : K.In s.heap) (J : ExcIs x C s.heap) (c : ExcCls K C) (q : R (.ok (.ret (.ref C))) s) :
    codeAny (model prog w) A (.call (.builtin "BaseException.__getattribute__") ⟨[.ref x, .str "__class__" tk], []⟩) R s := by
  obtain ⟨h0, g0, d0, t0, o0⟩ := s
  have LT := J.ty (M := model prog w)
  have LF := exc_find (M := model prog w) X J c
  have LB := looks_mroIn (M := model prog w) X c.mb
  refine codeAny_call_builtin PySem.F.attr_ValueError.ga.plain PySem.F.entry_bexc_ga ?_
  have hk : builtinKind "BaseException.__getattribute__" = some .slot := by decide +kernel
  have hsp : splitId "BaseException.__getattribute__" = some ("BaseException", "__getattribute__") := by decide +kernel
  have hao := PySem.F.args_bexc_ga (.ref x) (.str "__class__" tk)
  simp only [checkBuiltinCall, hk, hsp]
  refine wpAny_bind ?_
  unfold isInstance
  repeat (any_goals (first | assumption | with_reducible refine Looks.at (by assumption) ?_ | wp_step))
  refine exc_class_get X J c.mo ?_
  repeat (any_goals (first | assumption | wp_step))
theorem exc_attr {s : Shared} {Q : Option Value → Shared → Prop} (X : K.In s.heap) (J : ExcIs x C s.heap) (c : ExcCls K C) (q : Q (some (.ref C)) { s with toks := s.toks + 1 }) : wpAny (model prog w) A (getAttr? (.ref x) "__class__") Q E s := by
  obtain ⟨h0, g0, d0, t0, o0⟩ := s
  have LT := J.ty (M := model prog w)
  have L1 := looks_findIn (M := model prog w) X c.ga
  have L2 := looks_findIn (M := model prog w) X c.gn
  have f3 := PySem.F.attr_ValueError.ga.bind (.ref x)
  have hx2 : (Value.builtin "BaseException.__getattribute__" == Value.builtin "object.__getattribute__") = false := by decide +kernel
  have hx1 : (onTheHeap (Value.ref C) && Value.builtin "BaseException.__getattribute__" == Value.builtin "object.__getattribute__") = false := by rw [hx2]; rfl
  unfold getAttr? getAttrBy?
  repeat (any_goals (first | assumption | with_reducible refine Looks.at (by assumption) ?_ | wp_step))
  refine exc_entry X J c ?_
  repeat (any_goals (first | assumption | wp_step))
theorem exc_matches {s : Shared} {P : Addr} {Q : Bool → Shared → Prop} (X : K.In s.heap) (J : ExcIs x C s.heap) (c : ExcCls K P) (hm : mroIn K C (.ref P) = some true) (q : Q true s) : wpAny (model prog w) A (excMatches (.ref x) (.ref P)) Q E s := by
  obtain ⟨h0, g0, d0, t0, o0⟩ := s
  have LT := J.ty (M := model prog w)
  have LP := looks_typeIn (M := model prog w) X c.ty
  have LM := looks_mroIn (M := model prog w) X hm
  have LB := looks_mroIn (M := model prog w) X c.mb
  have LI : Looks (model prog w) h0 (isType (.ref P)) true := by
    obtain ⟨cd, hc⟩ := Option.isSome_iff_exists.mp c.cl
    unfold clsIn at hc
    split at hc
    · rename_i a1 a2 a3 a4 ho
      intro A' Q' E' s' k z
      unfold isType loadHead
      exact wpAny_bind (wpAny_loadPart (k _ _ (X _ _ ho)) (wpAny_pure z))
    · cases hc
  have LN : Looks (model prog w) h0 (isSubtype (.type "type") (.type "tuple")) false := Looks.of_pure tc_notTuple
  unfold excMatches isInstance isExcClass
  repeat lk
  exact q
theorem kitx_exc (c : ExcCls K C) : KitX K (.ref x) (.ref C) (ExcIs x C) where
  ty := fun _ _ _ J => J.ty
  it := fun M h X _ => by
    obtain ⟨cd, hc⟩ := Option.isSome_iff_exists.mp c.cl
    unfold clsIn at hc
    split at hc
    · rename_i a1 a2 a3 a4 ho
      intro A' Q' E' s' k z
      unfold isType loadHead
      exact wpAny_bind (wpAny_loadPart (k _ _ (X _ _ ho)) (wpAny_pure z))
    · cases hc
  ne := fun h tp dd its n sl X htp => by
    obtain ⟨cd, hc⟩ := Option.isSome_iff_exists.mp c.cl
    refine Bool.eq_false_iff.mpr fun q => ?_
    obtain rfl : C = tp := Value.ref.inj (beq_iff_eq.mp q)
    unfold clsIn at hc
    split at hc
    · rename_i a1 a2 a3 a4 ho
      have z := (X _ _ ho).symm.trans htp
      cases z
    · cases hc
  ca := fun X J k => exc_attr X J c k
end
end L2
set_option Elab.async false
set_option linter.all false
set_option maxRecDepth 100000
namespace L2
open PySem PySem.Spec PyProof.Rows PySem.W
structure FlyIn (X : Cx) (pins : List (Addr × Obj)) (h : Heap) (H : Hp) (C ea T : Addr) : Prop where
  ob : ∃ (oe : Obj) (vs : Array Value) (a0 : Value) (oT : Obj) (ts : Array Value), h.get? ea = some oe ∧ oe.cls = .ref C ∧ oe.data = .fields vs ∧ vs[0]? = some a0 ∧ vs[1]? = some (.ref T) ∧ h.get? T = some oT ∧ oT.data = .fields ts ∧ ts[3]? = some .none
  ne : T ≠ ea
  fe : H ea = none
  fT : H T = none
  s0 : X.s₀.heap.get? ea = none ∧ X.s₀.heap.get? T = none
  lo : X.env.locals ≠ ea ∧ X.env.locals ≠ T
  ce : ∀ x c, X.env.cells.lookup x = some c → c ≠ ea ∧ c ≠ T
  pi : ∀ p ∈ X.pn ++ pins, p.1 ≠ ea ∧ p.1 ≠ T
theorem Inv.exc {X : Cx} {pins : List (Addr × Obj)} {σ : St} {H : Hp} {s : Shared} {h' : Heap} {C ea T : Addr} (I : Inv X pins σ H s) (f : FlyIn X pins s.heap H C ea T)
    (k1 : ∀ b o, b ∉ frs X.stack → b ≠ ea → b ≠ T → s.heap.get? b = some o → h'.get? b = some o) (k2 : ∀ b o, b ∈ frs X.stack → s.heap.get? b = some o → ∃ sl, h'.get? b = some { o with slots := sl }) :
    Inv X pins σ H { s with heap := h' } := by
  have old : ∀ b o, X.s₀.heap.get? b = some o → b ≠ ea ∧ b ≠ T ∧ b ≠ X.env.locals := fun b o e =>
    ⟨(fun z => by rw [z, f.s0.1] at e; cases e), (fun z => by rw [z, f.s0.2] at e; cases e), Nat.ne_of_lt (Nat.lt_of_lt_of_le (Heap.lt_size e) I.ok.above)⟩
  have nst : ∀ b, b ≠ X.env.locals → b ∉ X.fs → b ∉ frs X.stack := fun b n1 n2 m => (List.mem_cons.mp (I.stkSub b m)).elim n1 n2
  have sst : ∀ b, b ∈ X.fs → b ∈ frs X.stack := fun b m => by
    rcases I.ok.stk with e | ⟨e, hf⟩
    · rw [e]; exact m
    · rw [e]
      unfold frs
      rw [List.filterMap_cons, hf]
      exact List.mem_cons_of_mem _ m
  have any : ∀ b o, b ≠ ea → b ≠ T → s.heap.get? b = some o → ∃ sl, h'.get? b = some { o with slots := sl } := fun b o n1 n2 e => by
    by_cases hb : b ∈ frs X.stack
    · exact k2 b o hb e
    · exact ⟨o.slots, k1 b o hb n1 n2 e⟩
  have cellK : ∀ x c, X.env.cells.lookup x = some c → ∀ v, s.heap.IsCell c v → h'.IsCell c v := fun x c e v ⟨o, ho, hd⟩ => by
    obtain ⟨sl, z⟩ := any c o (f.ce x c e).1 (f.ce x c e).2 ho
    exact ⟨_, z, hd⟩
  refine ⟨I.ok, I.os, I.bare, ⟨fun b o e n hb hx => ?_, fun b o e n hb hx => ?_, I.base.free, fun b o e hx => ?_, I.base.tups, I.base.frzs, I.base.tbls⟩, ?_, fun x c e => ?_, I.free, I.freeC, fun p hp => ?_, fun a o z => ?_, I.len⟩
  · obtain ⟨n1, n2, n3⟩ := old b o e
    exact k1 b o (nst b n3 hb) n1 n2 (I.base.keep b o e n hb hx)
  · obtain ⟨sl, z⟩ := I.base.slot b o e n hb hx
    obtain ⟨sl', z'⟩ := k2 b _ (sst b hb) z
    exact ⟨sl', z'⟩
  · obtain ⟨o', z⟩ := I.base.there b o e hx
    obtain ⟨n1, n2, n3⟩ := old b o e
    obtain ⟨sl, z'⟩ := any b o' n1 n2 z
    exact ⟨_, z'⟩
  · obtain ⟨m, ⟨o, es, ep, ho, hd, r⟩, hl⟩ := I.loc
    obtain ⟨sl, z⟩ := any _ o f.lo.1 f.lo.2 ho
    refine ⟨m, ⟨_, es, ep, z, hd, r⟩, fun i x v e1 e2 e3 => ?_⟩
    obtain ⟨u, ru, l⟩ := hl i x v e1 e2 e3
    refine ⟨u, ru, ?_⟩
    rcases l with l | ⟨k, c, e, y⟩
    · exact .inl l
    · exact .inr ⟨k, c, e, cellK x c e _ y⟩
  · obtain ⟨v, y⟩ := I.cell x c e
    exact ⟨v, cellK x c e v y⟩
  · obtain ⟨e, n, n1, n2, d⟩ := I.pin p hp
    exact ⟨k1 p.1 p.2 (nst p.1 n1 n2) (f.pi p hp).1 (f.pi p hp).2 e, n, n1, n2, d⟩
  · refine (I.hok a o z).stay (fun b u hb r => ?_) (fun _ y => y) fun _ _ y => y
    have hb' : ∃ u', H b = some u' := by
      rcases hb with rfl | hb
      · exact ⟨_, z⟩
      · exact ⟨_, hb⟩
    obtain ⟨u', hb'⟩ := hb'
    refine k1 b u (fun m => ?_) (fun y => ?_) (fun y => ?_) r
    · rw [I.stkFree b m] at hb'; cases hb'
    · rw [y, f.fe] at hb'; cases hb'
    · rw [y, f.fT] at hb'; cases hb'
def Cx.tr (X : Cx) (pl : List (Addr × Obj)) (Ec : Addr → St → Hp → Prop) : Cx :=
  { X with pn := X.pn ++ pl, xe := fun e s' => ∃ ea T C σ H, e = .ref ea ∧ Inv X pl σ H s' ∧ FlyIn X pl s'.heap H C ea T ∧ Ec C σ H }
theorem Inv.tr {X : Cx} {pl : List (Addr × Obj)} {σ : St} {H : Hp} {s : Shared} (I : Inv X pl σ H s) (Ec : Addr → St → Hp → Prop) : Inv (X.tr pl Ec) [] σ H s :=
  ⟨⟨I.ok.mod, I.ok.kind, I.ok.glob, I.ok.blt, I.ok.above, I.ok.inj, I.ok.has, I.ok.cab, I.ok.hd, I.ok.frames, I.ok.stk, I.ok.exf, I.ok.bs, I.ok.bsz, I.ok.noex, I.ok.exfs, I.ok.funs, I.ok.frf⟩, I.os, I.bare, I.base, I.loc, I.cell, I.free, I.freeC,
    fun p hp => I.pin p (by simpa [Cx.tr] using hp), I.hok, I.len⟩
theorem Inv.untr {X : Cx} {pl pins : List (Addr × Obj)} {σ : St} {H : Hp} {s : Shared} {Ec : Addr → St → Hp → Prop} (I : Inv (X.tr pl Ec) pins σ H s) : Inv X pl σ H s :=
  ⟨⟨I.ok.mod, I.ok.kind, I.ok.glob, I.ok.blt, I.ok.above, I.ok.inj, I.ok.has, I.ok.cab, I.ok.hd, I.ok.frames, I.ok.stk, I.ok.exf, I.ok.bs, I.ok.bsz, I.ok.noex, I.ok.exfs, I.ok.funs, I.ok.frf⟩, I.os, I.bare, I.base, I.loc, I.cell, I.free, I.freeC,
    fun p hp => I.pin p (List.mem_append_left _ hp), I.hok, I.len⟩
def tCallX (sp : Sp) (dvs : List V) (Ec : Addr → St → Hp → Prop) (t : TA) : TE := fun σ H Q => t σ H fun vs H1 => sp (vs ++ dvs) H1 Q fun c _ H2 => ∃ C, c = .ref C ∧ Ec C σ H2
theorem pe_callX {X : Cx} {pl : List (Addr × Obj)} {Ec : Addr → St → Hp → Prop} {k : Nat} {f : Addr} {fd : FuncData} {ps : List Str} {sp : Sp} {dvs : List V} {ds : List Value} {x : Str} {p pos : Pos} {e : Expr} {es : List Expr} {t : TA}
    (F : FnOk X.prog X.w X.K X.mg X.base (CXE X.prog X.w) k f fd ps sp) (hr : Room k X.A) (hg : Gl X x) (hm : X.mg x = some (.ref f)) (hk : PySem.W.keepIn X.K (.ref f) = true) (hb : Binds X.K fd ps ds) (hd : Vals dvs ds) (hex : X.ex = [])
    (ha : PA (X.tr pl Ec) (e :: es) t) (hdb : (x == ("__debug__" : Str)) = false := by decide) (he : starEach (e :: es) X.env = (false, eval e X.env) :: starEach es X.env := by rfl) (hpl : (backTo pos (starEach es X.env)).any (·.1) = false := by rfl) :
    PE (X.tr pl Ec) (.Call (.Name x p) (e :: es) [] pos) (tCallX sp dvs Ec t) := by
  intro pins s σ H Q I h
  refine wpAny_Call_Name_kw (ld_glob (X := X.tr pl Ec) I hg hm ?_ hdb)
  refine PySem.W.callWith_K (h₀ := X.base) I.ok.mod.kin hk (thn (ha pos pins s σ H _ I h) fun us s1 ⟨vs, H1, I1, r, q⟩ => ⟨I1.kIn, ?_⟩) he hpl
  have r2 : Vals (vs ++ dvs) (us ++ ds) := r.append hd
  have hl : (us ++ ds).length = ps.length := by rw [← r2.length]; exact F.len _ _ _ _ q
  refine wpAny_call (codeAny_mono (F.run X.A X.stack s1 H1 ⟨us, []⟩ (us ++ ds) (vs ++ dvs) Q _ hr I1.env0 (hb s1 us I1.kIn hl) r2 q) fun r s' hq => ?_)
  cases r with
  | ok fl =>
    cases fl with
    | ret u => exact I1.after hq
    | next => exact False.elim hq
    | brk => exact False.elim hq
    | cont => exact False.elim hq
  | error e' =>
    obtain ⟨ea, T, C, H', rfl, os, bare, un, hok, fl, C', eC, z⟩ := hq
    cases eC
    have I2 : Inv (X.tr pl Ec) pins σ H' s' := I1.call' (ch := []) os un hok bare (fun b z => nomatch z)
    have lo : ∀ b o, s1.heap.get? b = some o → b ≠ ea ∧ b ≠ T := fun b o e => ⟨(fun y => by rw [y, fl.ne0] at e; cases e), (fun y => by rw [y, fl.nT0] at e; cases e)⟩
    have s0n : ∀ b, s1.heap.get? b = none → X.s₀.heap.get? b = none := fun b e => by
      cases y : X.s₀.heap.get? b with
      | none => rfl
      | some o =>
        obtain ⟨o', y'⟩ := I1.base.there b o y (by show b ∉ X.ex; rw [hex]; exact fun z => nomatch z)
        rw [e] at y'
        cases y'
    refine ⟨ea, T, C, σ, H', rfl, I2.untr, ⟨fl.ob, fl.ne, fl.fe, fl.fT, ⟨s0n _ fl.ne0, s0n _ fl.nT0⟩, ?_, fun x c e => ?_, fun p hp => ?_⟩, z⟩
    · obtain ⟨m, ⟨o, _, _, ho, _⟩, _⟩ := I1.loc
      exact lo _ o ho
    · obtain ⟨v, o, ho, _⟩ := I1.cell x c e
      exact lo c o ho
    · exact lo _ _ (I1.pin p (List.mem_append_left _ hp)).1
def Cx.su (X : Cx) (e : Value) : Cx := { X with A := X.A.mark (some e), calm := false, xe := fun _ _ => False }
theorem Inv.su {X : Cx} {pins : List (Addr × Obj)} {σ : St} {H : Hp} {s : Shared} (I : Inv X pins σ H s) (e : Value) : Inv (X.su e) pins σ H s :=
  ⟨⟨I.ok.mod, I.ok.kind, I.ok.glob, I.ok.blt, I.ok.above, I.ok.inj, I.ok.has, I.ok.cab, (fun z => nomatch z), I.ok.frames, I.ok.stk, I.ok.exf, I.ok.bs, I.ok.bsz, I.ok.noex, I.ok.exfs, I.ok.funs, I.ok.frf⟩, I.os, I.bare, I.base, I.loc, I.cell, I.free, I.freeC, I.pin, I.hok, I.len⟩
theorem Inv.unsu {X : Cx} {pins : List (Addr × Obj)} {σ : St} {H : Hp} {s : Shared} {e : Value} (ok : X.Ok) (I : Inv (X.su e) pins σ H s) : Inv X pins σ H s :=
  ⟨ok, I.os, I.bare, I.base, I.loc, I.cell, I.free, I.freeC, I.pin, I.hok, I.len⟩
theorem Inv.unname {X : Cx} {pins : List (Addr × Obj)} {σ : St} {H : Hp} {s : Shared} {h' : Heap} {t' : Nat} {i : Nat} {n : Str} {v : Option Value} {m : Str → Option Value} (I : Inv X pins σ H s) (hN : X.N.Nodup) (hi : X.N[i]? = some n)
    (hn : s.heap.Ns X.env.locals m) (hl : ∀ (j : Nat) (x : Str) (w : V), X.N[j]? = some x → σ[j]? = some (some w) → Vis X.env.scope x → ∃ u, RelV w u ∧ Look X.env s.heap m x u) (hn' : h'.Ns X.env.locals fun y => if y = n then v else m y)
    (hs : Heap.SameBut X.env.locals s.heap h') : Inv X pins (σ.set i none) H { s with heap := h', toks := t' } := by
  have old : ∀ b o, X.s₀.heap.get? b = some o → b ≠ X.env.locals := fun b o e => Nat.ne_of_lt (Nat.lt_of_lt_of_le (Heap.lt_size e) I.ok.above)
  refine ⟨I.ok, I.os, I.bare, ⟨fun b o e n hb hx => (hs.2 b (old b o e)).trans (I.base.keep b o e n hb hx), fun b o e n hb hx => ?_, I.base.free, fun b o e hx => ?_, I.base.tups, I.base.frzs, I.base.tbls⟩, ⟨_, hn', fun j y w e1 e2 e3 => ?_⟩, fun y c e => ?_, I.free, I.freeC, fun p hp => ?_, fun b ob e => ?_, by simpa using I.len⟩
  · obtain ⟨sl, z⟩ := I.base.slot b o e n hb hx
    exact ⟨sl, (hs.2 b (old b o e)).trans z⟩
  · obtain ⟨o', z⟩ := I.base.there b o e hx
    exact ⟨o', (hs.2 b (old b o e)).trans z⟩
  · by_cases hj : j = i
    · subst hj
      rw [List.getElem?_set] at e2
      split at e2
      · split at e2 <;> cases e2
      · exact absurd rfl (by assumption)
    · rw [List.getElem?_set_ne (Ne.symm hj)] at e2
      obtain ⟨u, ru, l⟩ := hl j y w e1 e2 e3
      have yn : y ≠ n := fun z => hj (nodup_ix hN e1 (z ▸ hi))
      refine ⟨u, ru, ?_⟩
      rcases l with ⟨k, z⟩ | ⟨k, c, e, z⟩
      · exact .inl ⟨k, by show (if y = n then v else m y) = some u; rw [if_neg yn]; exact z⟩
      · exact .inr ⟨k, c, e, z.sameBut hs (I.cne y c e)⟩
  · obtain ⟨w, z⟩ := I.cell y c e
    exact ⟨w, z.sameBut hs (I.cne y c e)⟩
  · obtain ⟨e, a, b, c, d⟩ := I.pin p hp
    exact ⟨(hs.2 p.1 b).trans e, a, b, c, d⟩
  · refine (I.hok b ob e).stay (fun c w hc q => (hs.2 c ?_).trans q) (fun _ q => q) fun _ _ q => q
    intro z
    rcases hc with rfl | hc
    · rw [z, I.free] at e; cases e
    · rw [z, I.free] at hc; cases hc
def tTry (i : Nat) (CP : Addr → Prop) (tb : (Addr → St → Hp → Prop) → TS) (ts : TS) : TS := fun D σ H =>
  tb (fun C σ1 H1 => CP C ∧ ∀ ea, H1 ea = none → ts { nx := fun σ2 H2 => D.nx (σ2.set i none) H2, rt := D.rt, bk := fun σ2 H2 => D.bk (σ2.set i none) H2, ct := fun σ2 H2 => D.ct (σ2.set i none) H2 } (σ1.set i (some (.ref ea))) (upd H1 ea (.ext (ExcIs ea C)))) D σ H
theorem SP.untr {X : Cx} {pl pins : List (Addr × Obj)} {Ec : Addr → St → Hp → Prop} {D : Ends} {f : Flow} {s' : Shared} (h : SP (X.tr pl Ec) pins D f s') : SP X pl D f s' := by
  cases f with
  | next => obtain ⟨σ', H', I, q⟩ := h; exact ⟨σ', H', I.untr, q⟩
  | brk => obtain ⟨σ', H', I, q⟩ := h; exact ⟨σ', H', I.untr, q⟩
  | cont => obtain ⟨σ', H', I, q⟩ := h; exact ⟨σ', H', I.untr, q⟩
  | ret u => obtain ⟨v, σ', H', I, r, q⟩ := h; exact ⟨v, σ', H', I.untr, r, q⟩
theorem ps_try {X : Cx} {i : Nat} {n x : Str} {P : Addr} {body : List Stmt} {b₀ : Stmt} {suite : List Stmt} {tb : (Addr → St → Hp → Prop) → TS} {ts : TS} {np hpos pos : Pos} (hst : X.stack = X.env :: X.outer) (hf : X.env.frame = some X.env.locals)
    (hN : X.N.Nodup) (hi : X.N[i]? = some n) (hlo : X.env.scope.names.lookup n = some .local) (hg : Gl X x) (hm : X.mg x = some (.ref P)) (cP : ExcCls X.K P) (hb : ∀ pl Ec, PSs (X.tr pl Ec) body (tb Ec)) (hs : ∀ e, PSs (X.su e) (b₀ :: suite) ts)
    (hd : (x == ("__debug__" : Str)) = false := by decide) :
    PS X (.Try body [.ExceptHandler (some (.Name x np)) (some n) (b₀ :: suite) hpos] [] [] pos) (tTry i (fun C => mroIn X.K C (.ref P) = some true) tb ts) := by
  intro pins s σ H D I h
  refine wpAny_Try_except ?_
  have hB := hb pins _ [] s σ H D (I.tr _) h
  refine wpAny_mono hB (fun f s1 q => ?_) fun e s1 q => ?_
  · have q' := q.untr
    cases f with
    | next =>
      obtain ⟨σ', H', I', z⟩ := q'
      exact wpAny_execs_nil ⟨σ', H', I', z⟩
    | brk => exact q'
    | cont => exact q'
    | ret u => exact q'
  obtain ⟨ea, T, C, σ1, H1, rfl, I1, fly, hC, q⟩ := q
  obtain ⟨oe, vs, a0, oT, ts', e1, e2, e3, e4, e5, e6, e7, e8⟩ := fly.ob
  have frN : ∀ b ∈ frs X.stack, b ≠ ea ∧ b ≠ T := fun b hb => by
    obtain ⟨_, o, ho, hnf⟩ := I1.stack.mem hb
    exact ⟨(fun z => by rw [z, e1] at ho; cases ho; exact hnf vs e3), (fun z => by rw [z, e6] at ho; cases ho; exact hnf ts' e7)⟩
  -- the heap without the frames and the exception's records
  have ff : s1.heap.FunFrames (hideAll s1.heap (ea :: T :: frs X.stack)) X.stack := I1.hid _ fun b hb => List.mem_cons_of_mem _ (List.mem_cons_of_mem _ hb)
  have fl : Heap.FlyingW (hideAll s1.heap (ea :: T :: frs X.stack)) X.stack ea (.ref C) a0 s1.heap :=
    ⟨fun b o z => of_hideAll _ z, hideAll_none _ List.mem_cons_self, ff, oe, vs, T, oT, ts', e1, ⟨e2, e4⟩, e3, e5, hideAll_none _ (List.mem_cons_of_mem _ List.mem_cons_self), fly.ne, e6, e7, e8⟩
  have frA : X.A.frames = some (X.env :: X.outer) := by rw [← hst]; exact I.ok.frames
  have back : ∀ {h' : Heap}, Heap.StaysIn (hideAll s1.heap (ea :: T :: frs X.stack)) h' → s1.heap.UpToSlots h' → Inv X pins σ1 H1 { s1 with heap := h' } := fun {h'} st up => by
    refine I1.exc fly (fun b o n1 n2 n3 z => st b o (hideAll_get _ z ?_)) fun b o n1 z => ?_
    · intro m
      rcases List.mem_cons.mp m with m | m
      · exact n2 m
      · rcases List.mem_cons.mp m with m | m
        · exact n3 m
        · exact n1 m
    · obtain ⟨_, o', ho, hnf⟩ := I1.stack.mem n1
      rw [z] at ho
      cases ho
      exact up b o z hnf
  rw [hst] at fl back
  refine wpAny_looks_onW frA hf fl fun h4 held4 up4 => ?_
  refine wpAny_landsW held4 fun h5 fl5 up5 => ?_
  have I5 : Inv X pins σ1 H1 { s1 with heap := h5 } := back fl5.1 (up4.trans up5)
  have J5 : ExcIs ea C h5 := by
    obtain ⟨o, z1, z2⟩ := fl5.there
    exact ⟨o, z1, z2⟩
  refine wpAny_handleBy_cons (codeAny_handlers_test (ld_glob (X := X.su (.ref ea)) (I5.su _) hg hm ?_ hd)) (by intro z; cases z)
  refine exc_matches (K := X.K) (P := P) I5.kIn J5 cP hC ?_
  refine codeAny_handlers_suite_as ?_
  refine lands_againW fl5 fun h6 fl6 up6 => ?_
  have I6 : Inv X pins σ1 H1 { s1 with heap := h6 } := back fl6.1 ((up4.trans up5).trans up6)
  have J6 : ExcIs ea C h6 := by
    obtain ⟨o, z1, z2⟩ := fl6.there
    exact ⟨o, z1, z2⟩
  have I7 : Inv X pins σ1 (upd H1 ea (.ext (ExcIs ea C))) { s1 with heap := h6 } := I6.track fly.fe fly.s0.1 fly.lo.1.symm (fun x c e => (fly.ce x c e).1) (fun p hp => (fly.pi p hp).1) J6.ok
  refine store_ok (X := X.su (.ref ea)) (I7.su _) hN hi (Or.inl hlo) (v := .ref ea) rfl (fun s8 I8 => ?_) (Or.inr hlo)
  refine wpAny_mono (hs _ pins s8 _ _ _ I8 (q ea fly.fe)) (fun f s9 q9 => ?_) fun _ _ z => False.elim z
  have hcls : (X.env.scope.kind == .class || (X.env.scope.kind == .module && X.env.locals != X.env.globals)) = false := by rw [I.ok.kind]; rfl
  have fin : ∀ {σ9 : St} {H9 : Hp} {R : Unit → Shared → Prop}, Inv (X.su (.ref ea)) pins σ9 H9 s9 → (∀ s10, Inv X pins (σ9.set i none) H9 s10 → R () s10) →
      wpAny (model X.prog X.w) X.A (do bindName X.env n .none; unbindBehindTheSuite X.env n hpos) R X.xe s9 := fun {σ9 H9 R} I9 k => by
    obtain ⟨m, hn, hl⟩ := I9.loc
    exact wpAny_nameGoes_keeps hlo hn hcls fun h' v hn' hs' => k _ ((I9.unsu I.ok).unname hN hi hn hl hn' hs')
  cases f with
  | next =>
    obtain ⟨σ9, H9, I9, z⟩ := q9
    exact fin I9 fun s10 I10 => ⟨_, H9, I10, z⟩
  | brk =>
    obtain ⟨σ9, H9, I9, z⟩ := q9
    exact fin I9 fun s10 I10 => ⟨_, H9, I10, z⟩
  | cont =>
    obtain ⟨σ9, H9, I9, z⟩ := q9
    exact fin I9 fun s10 I10 => ⟨_, H9, I10, z⟩
  | ret u =>
    obtain ⟨v, σ9, H9, I9, r, z⟩ := q9
    exact fin I9 fun s10 I10 => ⟨v, _, H9, I10, r, z⟩
end L2
set_option Elab.async false
set_option linter.all false
set_option maxRecDepth 100000
namespace L2
open PySem PySem.Spec PyProof.Rows
end L2
set_option Elab.async false
set_option linter.all false
set_option maxRecDepth 100000
namespace L2
open PySem PySem.Spec PyProof.Rows
def Evl (t : TE) (σ : St) (H : Hp) (v : V) : Prop := ∀ Q : VK, Q v H → t σ H Q
def Tst (t : TT) (σ : St) (H : Hp) (p : Prop) [Decidable p] : Prop := ∀ Q : Bool → Hp → Prop, Q (decide p) H → t σ H Q
section
variable {σ : St} {H : Hp} {ta tb tc : TE} {x y v : V} {i j k : Int} {K : PySem.W.Frag} {D : Ends} {n m : Nat}
theorem evl_var {i : Nat} (h : σ[i]? = some (some v)) : Evl (tVar i) σ H v := fun Q q => ⟨v, h, q⟩
theorem evl_c : Evl (tC v) σ H v := fun Q q => q
theorem evl_I0 {g : Int → Int → V} (a : Evl ta σ H (.int i)) (b : Evl tb σ H (.int j)) : Evl (tOp (rI0 g) ta tb) σ H (g i j) := fun Q q => a _ (b _ ⟨i, j, rfl, rfl, q⟩)
theorem evl_I {C : Int → Int → Prop} {g : Int → Int → V} (a : Evl ta σ H (.int i)) (b : Evl tb σ H (.int j)) (c : C i j) : Evl (tOp (rI C g) ta tb) σ H (g i j) := fun Q q => a _ (b _ ⟨i, j, rfl, rfl, c, q⟩)
theorem evl_U {g : Int → V} (a : Evl ta σ H (.int i)) : Evl (tUn (rU g) ta) σ H (g i) := fun Q q => a _ ⟨i, rfl, q⟩
theorem evl_eqI (a : Evl ta σ H (.int i)) (b : Evl tb σ H (.int j)) : Evl (tOp rEq ta tb) σ H (.bl (decide (i = j))) := fun Q q => a _ (b _ ⟨rfl, by
  have e : decide (V.int i = V.int j) = decide (i = j) := by
    rw [decide_eq_decide]
    exact ⟨fun z => V.int.inj z, fun z => by rw [z]⟩
  rw [e]
  exact q⟩)
theorem evl_ixT {p : Addr} {xs : List V} (a : Evl ta σ H (.ref p)) (b : Evl tb σ H (.int i)) (h : SqT K H p xs) (e : atI xs i = some v) : Evl (tOp (rIxT K) ta tb) σ H v := fun Q q => a _ (b _ ⟨p, xs, i, v, rfl, rfl, h, e, q⟩)
theorem evl_ixL {p : Addr} {xs : List V} (a : Evl ta σ H (.ref p)) (b : Evl tb σ H (.int i)) (h : SqL K H p xs) (e : atI xs i = some v) : Evl (tOp (rIxL K) ta tb) σ H v := fun Q q => a _ (b _ ⟨p, xs, i, v, rfl, rfl, h, e, q⟩)
theorem evl_lenL {p : Addr} {ys : List V} (a : Evl ta σ H (.ref p)) (h : SqL K H p ys) : Evl (tCB (fun xs H Q => ∃ p ys, xs = [.ref p] ∧ (SqL K H p ys ∨ SqT K H p ys) ∧ Q (.int ys.length) H) (tCons ta tNil)) σ H (.int ys.length) := fun Q q => a _ ⟨p, ys, rfl, .inl h, q⟩
theorem evl_call2 {g : Int → Int → V} (a : Evl ta σ H (.int i)) (b : Evl tb σ H (.int j)) : Evl (tCB (fun xs H Q => ∃ i j, xs = [.int i, .int j] ∧ Q (g i j) H) (tCons ta (tCons tb tNil))) σ H (g i j) := fun Q q => a _ (b _ ⟨i, j, rfl, q⟩)
theorem evl_chain {f g : Int → Int → Bool} (a : Evl ta σ H (.int i)) (b : Evl tb σ H (.int j)) (c : Evl tc σ H (.int k)) : Evl (tChain (rI0 fun i j => .bl (f i j)) (rI0 fun i j => .bl (g i j)) ta tb tc) σ H (.bl (f i j && g j k)) := fun Q q => a _ (b _ ⟨i, j, rfl, rfl, _, rfl, by
  cases e : f i j with
  | true =>
    rw [if_pos rfl]
    rw [e, Bool.true_and] at q
    exact c _ ⟨j, k, rfl, rfl, q⟩
  | false =>
    rw [if_neg Bool.false_ne_true]
    rw [e, Bool.false_and] at q
    exact q⟩)
theorem tst_of {p : Prop} [Decidable p] (a : Evl ta σ H (.bl (decide p))) : Tst (tTest ta) σ H p := fun Q q => a _ ⟨_, rfl, q⟩
theorem tst_and {t u : TT} {p q : Prop} [Decidable p] [Decidable q] (a : Tst t σ H p) (b : Tst u σ H q) : Tst (tAnd t u) σ H (p ∧ q) := fun Q z => a _ (by
  by_cases h : p
  · rw [decide_eq_true h, if_pos rfl]
    refine b _ ?_
    have e : decide (p ∧ q) = decide q := by rw [decide_eq_decide]; exact ⟨fun z => z.2, fun z => ⟨h, z⟩⟩
    rw [← e]; exact z
  · rw [decide_eq_false h, if_neg Bool.false_ne_true]
    have e : decide (p ∧ q) = false := decide_eq_false fun z => h z.1
    rw [← e]; exact z)
theorem tst_not {t : TT} {p : Prop} [Decidable p] (a : Tst t σ H p) : Tst (tNot t) σ H (¬ p) := fun Q z => a _ (by
  have e : (!decide p) = decide (¬ p) := by simp
  show Q (!decide p) H
  rw [e]; exact z)
theorem tst_if {t : TT} {a b : TS} {p : Prop} [Decidable p] (h : Tst t σ H p) (h1 : p → a D σ H) (h2 : ¬ p → b D σ H) : tIfS t a b D σ H := h _ (by
  by_cases c : p
  · rw [decide_eq_true c, if_pos rfl]; exact h1 c
  · rw [decide_eq_false c, if_neg Bool.false_ne_true]; exact h2 c)
theorem seq_if {t : TT} {a b u : TS} {p : Prop} [Decidable p] (h : Tst t σ H p) (h1 : p → a { D with nx := u D } σ H) (h2 : ¬ p → b { D with nx := u D } σ H) : tSeq (tIfS t a b) u D σ H := tst_if h h1 h2
theorem seq_asg {i : Nat} {u : TS} (h : Evl ta σ H v) (q : u D (σ.set i (some v)) H) : tSeq (tAsg ta (gName i)) u D σ H := h _ q
theorem run_next (h : D.nx σ H) : tNext D σ H := h
theorem run_seq {t u : TS} (h : t { D with nx := u D } σ H) : tSeq t u D σ H := h
end
end L2
set_option Elab.async false
set_option linter.all false
set_option maxRecDepth 100000
namespace L2
open PySem PySem.Spec PyProof.Rows PySem.W
inductive TyX (K : Frag) (H : Hp) : V → Value → Prop where
  | of {x : V} {t : Value} (h : TyOf K H x t) : TyX K H x t
  | exc {ea C : Addr} (e : H ea = some (.ext (ExcIs ea C))) (c : ExcCls K C) : TyX K H (.ref ea) (.ref C)
def clsV : V → Value
  | .ref a => .ref a
  | .ty n => .type n
  | _ => .none
def isCls : V → Bool
  | .ref _ => true
  | .ty _ => true
  | _ => false
theorem clsV_rel : ∀ {c : V} {u : Value}, isCls c = true → RelV c u → u = clsV c
  | .ref _, _, _, r => r
  | .ty _, _, _, r => r
theorem clsV_all : ∀ {cs : List V} {us : List Value}, cs.all isCls = true → Vals cs us → us = cs.map clsV
  | _, _, _, .nil => rfl
  | c :: cs, u :: us, h, .cons r t => by
    rw [List.all_cons, Bool.and_eq_true] at h
    rw [clsV_rel h.1 r, clsV_all h.2 t]
    rfl
section
variable {X : Cx}
theorem tyx_kit {pins : List (Addr × Obj)} {σ : St} {H : Hp} {s : Shared} {x : V} {u t : Value} (I : Inv X pins σ H s) (rx : RelV x u) (ty : TyX X.K H x t) : ∃ J, KitX X.K u t J ∧ J s.heap ∧ u ≠ .builtin "__main__.__loader__#opaque" := by
  cases ty with
  | exc e c =>
    cases (show u = Value.ref _ from rx)
    obtain ⟨J, _⟩ := I.hok _ _ e
    exact ⟨_, kitx_exc c, J, fun z => nomatch z⟩
  | of ty =>
    cases ty with
    | non => cases (show u = Value.none from rx); exact ⟨_, kitx_none, True.intro, fun z => nomatch z⟩
    | bl y => cases (show u = Value.bool y from rx); exact ⟨_, kitx_bool, True.intro, fun z => nomatch z⟩
    | int i => obtain ⟨t, q⟩ := (show ∃ t, u = Value.int i t from rx); cases q; exact ⟨_, kitx_int, True.intro, fun z => nomatch z⟩
    | str y => obtain ⟨t, q⟩ := (show ∃ t, u = Value.str y t from rx); cases q; exact ⟨_, kitx_str, True.intro, fun z => nomatch z⟩
    | flt y => obtain ⟨t, q⟩ := (show ∃ t, u = Value.float y t from rx); cases q; exact ⟨_, kitx_float, True.intro, fun z => nomatch z⟩
    | @lst a xs ea =>
      cases (show u = Value.ref a from rx)
      obtain ⟨_, _, n, _, h1⟩ := (show ObjOk X.prog X.w H s.heap a (.lst xs) from I.hok a _ ea)
      exact ⟨_, kitx_list, ⟨_, h1, rfl⟩, fun z => nomatch z⟩
    | @frz a ob xs ea =>
      cases (show u = Value.ref a from rx)
      obtain ⟨_, _, _, n, _, h1⟩ := (show ObjOk X.prog X.w H s.heap a (.frz ob (.lst xs)) from I.hok a _ ea)
      exact ⟨_, kitx_list, ⟨_, h1, rfl⟩, fun z => nomatch z⟩
    | @tup a xs ea =>
      cases (show u = Value.ref a from rx)
      obtain ⟨_, _, _, p⟩ := (show ObjOk X.prog X.w H s.heap a (.tup xs) from I.hok a _ ea)
      obtain ⟨o, h1, h2, _⟩ := p
      exact ⟨_, kitx_tuple, ⟨o, h1, h2⟩, fun z => nomatch z⟩
    | @dK a kvs ea =>
      cases (show u = Value.ref a from rx)
      obtain ⟨_, _, vs, _, p⟩ := (show ObjOk X.prog X.w H s.heap a (.dK kvs) from I.hok a _ ea)
      obtain ⟨o, es, ep, h1, h2, _⟩ := p
      exact ⟨_, kitx_dict, ⟨o, h1, h2.1⟩, fun z => nomatch z⟩
    | @dT a kvs ea =>
      cases (show u = Value.ref a from rx)
      obtain ⟨_, _, xs, _, o, es, ep, h1, h2, _⟩ := (show ObjOk X.prog X.w H s.heap a (.dT kvs) from I.hok a _ ea)
      exact ⟨_, kitx_dict, ⟨o, h1, h2.1⟩, fun z => nomatch z⟩
    | @ins a C dx fs ea cl ha hn htk hm =>
      cases (show u = Value.ref a from rx)
      obtain ⟨mA, O, _⟩ := ins_get I.hok ea
      obtain ⟨od, J, _⟩ := O.look
      exact ⟨_, kitx_own (cl.get _) cl.hd ha hn htk hm, J, fun z => nomatch z⟩
theorem call_isi : CallR X (.builtin "isinstance") (fun xs H Q => ∃ x c t b, xs = [x, c] ∧ isCls c = true ∧ TyX X.K H x t ∧ kitOne X.K t (clsV c) = some b ∧ Q (.bl b) H) := by
  intro pins s σ H xs us Q I r h
  obtain ⟨x, c, t, b, rfl, hc, ty, e, q⟩ := h
  obtain ⟨u, v, rfl, r1, r2⟩ := vals2 r
  rw [clsV_rel hc r2]
  obtain ⟨J, Z, hJ, hx⟩ := tyx_kit I r1 ty
  exact kia_one Z I.kIn hJ e hx fun tk => ⟨.bl b, H, I.tok tk, rfl, q⟩
theorem call_isiT : CallR X (.builtin "isinstance") (fun xs H Q => ∃ x p cs t b, xs = [x, .ref p] ∧ SqT X.K H p cs ∧ cs.all isCls = true ∧ TyX X.K H x t ∧ kitAny X.K t (cs.map clsV) = some b ∧ Q (.bl b) H) := by
  intro pins s σ H xs us Q I r h
  obtain ⟨x, p, cs, t, b, rfl, hp, hc, ty, e, q⟩ := h
  obtain ⟨u, v, rfl, r1, r2⟩ := vals2 r
  cases (show v = Value.ref p from r2)
  obtain ⟨J, Z, hJ, hx⟩ := tyx_kit I r1 ty
  obtain ⟨its, r', pl, hz⟩ := I.tuple hp
  rw [← clsV_all hc r'] at e
  obtain ⟨⟨oc, od, dt, sl⟩, h1, h2, n, h3⟩ := (show s.heap.IsTuple p its.toArray from pl)
  have h2 : oc = .type "tuple" := h2
  have h3 : dt = .seq its.toArray n := h3
  subst h2 h3
  exact kia_tup Z I.kIn hJ h1 e hx fun tk => ⟨.bl b, H, I.tok tk, rfl, q⟩
end
end L2
set_option Elab.async false
set_option linter.all false
set_option maxRecDepth 100000
namespace L2
open PySem PySem.Spec PyProof.Rows PySem.W
end L2
set_option Elab.async false
set_option linter.all false
set_option maxRecDepth 100000
namespace L2
open PySem PySem.Spec PyProof.Rows
section
variable {X : Cx}
theorem lst_walk' {pins : List (Addr × Obj)} {σ : St} {H : Hp} {s : Shared} {a : Addr} {its : List Value} (I : Inv X pins σ H s) (tp : s.heap.IsList a its.toArray) (hc : X.calm = true) {Q : Value → Shared → Prop}
    (q : ∀ s2 : Shared, s2 = { s with heap := s.heap.push { cls := .type "list_iterator", data := .fields #[.ref a, .int 0 0] } } → Walks X.prog X.w X.A.in1 s.heap.objs.size [s.heap.objs.size, a] [s.heap.objs.size] its.toArray.size (fun i v => its.toArray[i]? = some v) (fun i h => h.IsListIter s.heap.objs.size a i ∧ h.IsList a its.toArray) →
      (s2.heap.IsListIter s.heap.objs.size a 0 ∧ s2.heap.IsList a its.toArray) → (∀ b ∈ [s.heap.objs.size, a], b < s2.heap.objs.size) → Q (.ref s.heap.objs.size) s2) : wpAny (model X.prog X.w) X.A.in1 (pyIter (.ref a)) Q X.xe s := by
  have hlt : a < s.heap.objs.size := by obtain ⟨_, e, _⟩ := tp; exact Heap.lt_size e
  refine wpAny_pyIter_list tp (q _ rfl (Walks.list (by exact I.ok.hd hc) _ _ (Nat.ne_of_lt hlt) _) ⟨⟨_, Heap.get?_push_size _ rfl, rfl, rfl⟩, ?_⟩ fun b hb => ?_)
  · obtain ⟨o, e, r⟩ := tp
    exact ⟨o, Heap.get?_push_of_some _ e, r⟩
  · show b < (s.heap.push _).objs.size
    rw [Heap.size_push]
    rcases List.mem_cons.mp hb with rfl | hb
    · exact Nat.lt_succ_self _
    · rw [List.mem_singleton.mp hb]
      exact Nat.lt_succ_of_lt hlt
theorem preSum_take (ns : List Int) : ∀ k, k ≤ ns.length → preSum (fun i => ns.getD i 0) k = (ns.take k).sum
  | 0, _ => rfl
  | k + 1, h => by
    show preSum _ k + ns.getD k 0 = _
    rw [preSum_take ns k (by omega), ← List.take_append_getElem (by omega : k < ns.length), List.sum_append, getD_at (by omega)]
    simp
end
end L2
set_option Elab.async false
set_option linter.all false
set_option maxRecDepth 100000
namespace L2
open PySem PySem.Spec PyProof.Rows
theorem iteF_of {A B : Prop} (h : if false = true then A else B) : B := by rwa [if_neg Bool.false_ne_true] at h
theorem iteT_of {A B : Prop} (h : if true = true then A else B) : A := by rwa [if_pos rfl] at h
def cxComp (X : Cx) (Nc : List Str) (scope : Scope) (cl : List (Str × Addr)) (s : Shared) (H : Hp) (C : Addr) (fp : List Addr) : Cx :=
  { X with N := Nc, s₀ := s, H₀ := H, env := compEnvC scope cl C X.env, outer := X.stack, ex := fp, fn := fun _ => false, pn := [], xe := fun _ _ => False }
def seen (ix : List (Option Nat)) (σ : St) : St := ix.map fun o => match o with
  | some j => (σ[j]?).getD none
  | none => none
theorem closure_of {scope : Scope} {env : Env} (h : ∀ x ∈ scope.names, x.2 = .free → ∃ c, env.cells.lookup x.1 = some c) :
    ∃ cl, closureFor scope env = pure cl ∧ (∀ x c, cl.lookup x = some c → env.cells.lookup x = some c) ∧ ∀ x ∈ scope.names, x.2 = .free → ∃ c, cl.lookup x.1 = some c := by
  have go : ∀ (ns : List (Str × NameKind)) (cs : List (Str × Addr)), (∀ x ∈ ns, x.2 = .free → ∃ c, env.cells.lookup x.1 = some c) → (∀ x c, cs.lookup x = some c → env.cells.lookup x = some c) →
      ∃ cl, (forIn ns cs fun (x : Str × NameKind) (r : List (Str × Addr)) => (if (x.2 == .free) = true then (do let c ← cellOf env x.1; pure (ForInStep.yield ((x.1, c) :: r))) else pure (ForInStep.yield r) : Sem _)) = pure cl ∧
        (∀ x c, cl.lookup x = some c → env.cells.lookup x = some c) ∧ (∀ x ∈ ns, x.2 = .free → ∃ c, cl.lookup x.1 = some c) ∧ ∀ x c, cs.lookup x = some c → ∃ c', cl.lookup x = some c' := by
    intro ns
    induction ns with
    | nil => intro cs _ h2; exact ⟨cs, rfl, h2, fun x hx => (nomatch hx), fun x c e => ⟨c, e⟩⟩
    | cons p r ih =>
      obtain ⟨n, k⟩ := p
      intro cs h1 h2
      by_cases hk : k = .free
      · subst hk
        obtain ⟨c, hc⟩ := h1 (n, .free) List.mem_cons_self rfl
        have hcs : ∀ x c', List.lookup x ((n, c) :: cs) = some c' → env.cells.lookup x = some c' := fun x c' e => by
          rw [List.lookup_cons] at e
          cases hx : x == n with
          | true => rw [hx] at e; cases e; rw [eq_of_beq hx]; exact hc
          | false => rw [hx] at e; exact h2 x c' e
        obtain ⟨cl, e1, e2, e3, e4⟩ := ih ((n, c) :: cs) (fun x hx => h1 x (List.mem_cons_of_mem _ hx)) hcs
        refine ⟨cl, ?_, e2, fun x hx hf => ?_, fun x c' e => ?_⟩
        · rw [List.forIn_cons]
          have : cellOf env n = pure c := by unfold cellOf; rw [hc]
          simp only [beq_self_eq_true, if_true, this, pure_bind]
          exact e1
        · rcases List.mem_cons.mp hx with rfl | hx
          · exact e4 n c (by rw [List.lookup_cons, beq_self_eq_true])
          · exact e3 x hx hf
        · cases hx : x == n with
          | true => exact e4 x c (by rw [List.lookup_cons, hx])
          | false => exact e4 x c' (by rw [List.lookup_cons, hx]; exact e)
      · obtain ⟨cl, e1, e2, e3, e4⟩ := ih cs (fun x hx => h1 x (List.mem_cons_of_mem _ hx)) h2
        refine ⟨cl, ?_, e2, fun x hx hf => ?_, e4⟩
        · rw [List.forIn_cons]
          have hb : (k == NameKind.free) = false := by simpa using hk
          simp only [hb, Bool.false_eq_true, if_false, pure_bind]
          exact e1
        · rcases List.mem_cons.mp hx with rfl | hx
          · exact absurd hf hk
          · exact e3 x hx hf
  obtain ⟨cl, e1, e2, e3, _⟩ := go scope.names [] h (fun x c e => by cases e)
  refine ⟨cl, ?_, e2, e3⟩
  unfold closureFor
  simp only [bind_pure]
  exact e1
def PTs (X : Cx) (ifs : List Expr) (t : TT) : Prop :=
  ∀ (pins : List (Addr × Obj)) (s : Shared) (σ : St) (H : Hp) (Q : Bool → Hp → Prop), Inv X pins σ H s → t σ H Q →
    wpAny (model X.prog X.w) X.A (forIn ifs true fun c r => if r = true then do let ok ← isTrue c X.env (eval c X.env); pure (ForInStep.yield ok) else pure (ForInStep.yield r)) (TP X pins σ Q) X.xe s
def tYes : TT := fun _ H Q => Q true H
theorem pts_nil {X : Cx} : PTs X [] tYes := fun _ _ _ H _ I h => wpAny_tests_nil ⟨H, I, h⟩
theorem pts_one {X : Cx} {c : Expr} {t : TT} (h : PT X c t) : PTs X [c] t := fun pins s σ H Q I q => wpAny_tests_one (h pins s σ H Q I q)
def tCompR (wi : TI) (ix : List (Option Nat)) (g : TG) (tc : TT) (te : TE) (σ : St) (H : Hp) (R : List V → Hp → Prop) : Prop := wi σ H fun J H1 => ∃ W : Nat → Nat → List V → St → Hp → Prop, (∃ m, W 0 m [] (seen ix σ) H1) ∧ ∀ i m ys σ' H', W i m ys σ' H' →
  (J.stop i H' ∧ ys.length ≤ sizeLine ∧ R ys H') ∨
  (J.go i H' ∧ ys.length ≤ sizeLine ∧ ∃ N : List V → St → Hp → Prop, (∀ ys' σ2 H2, N ys' σ2 H2 → ∃ m', m' < m ∧ W (i + 1) m' ys' σ2 H2) ∧
    ∀ x H2, J.yld i H' x H2 → g x σ' H2 fun σ2 H3 => tc σ2 H3 fun b H4 => if b = true then te σ2 H4 fun y H5 => N (ys ++ [y]) σ2 H5 else N ys σ2 H4)
def tComp (wi : TI) (ix : List (Option Nat)) (g : TG) (tc : TT) (te : TE) : TE := fun σ H Q => tCompR wi ix g tc te σ H fun ys H' => ∀ l, H' l = none → Q (.ref l) (upd H' l (.lst ys))
def compOk (scope outer : Scope) (N Nc : List Str) (ix : List (Option Nat)) : Bool :=
  scope.names.all (fun y => y.2 != .cell) && scope.kind == .function && scope.names.all (fun y => y.2 != .local || scope.names.lookup y.1 == some .local) &&
  scope.names.all (fun y => y.2 != .free || outer.names.lookup y.1 == some .cell || outer.names.lookup y.1 == some .free) && ix.length == Nc.length &&
  (List.range Nc.length).all fun i => match ix[i]?, Nc[i]? with
    | some (some j), some x => N[j]? == some x && (outer.names.lookup x == some .cell || outer.names.lookup x == some .free) && scope.names.lookup x == some .free
    | _, _ => true
theorem relabel_of {env : Env} : ∀ {names : List (Str × NameKind)} {y : Str} {k : NameKind}, (∀ z ∈ names, z.2 ≠ .cell) →
    (names.map fun (n, k) => if (k == NameKind.free && env.scope.kind == .function && env.kindOf n == some .cell) then (n, NameKind.cell) else (n, k)).lookup y = some k → k = .cell ∨ k = .free → ∃ z ∈ names, z.1 = y ∧ z.2 = .free
  | [], _, _, _, h, _ => by simp at h
  | (n, k0) :: r, y, k, hc, h, hk => by
    rw [List.map_cons] at h
    have h : List.lookup y ((if (k0 == NameKind.free && env.scope.kind == .function && env.kindOf n == some .cell) = true then (n, NameKind.cell) else (n, k0)) :: _) = some k := h
    cases hx : y == n with
    | true =>
      by_cases hb : (k0 == NameKind.free && env.scope.kind == .function && env.kindOf n == some .cell) = true
      · simp only [Bool.and_eq_true, beq_iff_eq] at hb
        exact ⟨(n, k0), List.mem_cons_self, (eq_of_beq hx).symm, hb.1.1⟩
      · rw [if_neg hb, List.lookup_cons, hx] at h
        cases h
        rcases hk with rfl | rfl
        · exact absurd rfl (hc (n, .cell) List.mem_cons_self)
        · exact ⟨(n, .free), List.mem_cons_self, (eq_of_beq hx).symm, rfl⟩
    | false =>
      have h' : List.lookup y (r.map fun (n, k) => if (k == NameKind.free && env.scope.kind == .function && env.kindOf n == some .cell) then (n, NameKind.cell) else (n, k)) = some k := by
        by_cases hb : (k0 == NameKind.free && env.scope.kind == .function && env.kindOf n == some .cell) = true
        · rw [if_pos hb, List.lookup_cons, hx] at h; exact h
        · rw [if_neg hb, List.lookup_cons, hx] at h; exact h
      obtain ⟨z, hz, e1, e2⟩ := relabel_of (fun z hz => hc z (List.mem_cons_of_mem _ hz)) h' hk
      exact ⟨z, List.mem_cons_of_mem _ hz, e1, e2⟩
theorem relabel_free {env : Env} : ∀ {names : List (Str × NameKind)} {y : Str}, names.lookup y = some .free →
    (names.map fun (n, k) => if (k == NameKind.free && env.scope.kind == .function && env.kindOf n == some .cell) then (n, NameKind.cell) else (n, k)).lookup y = some .cell ∨
    (names.map fun (n, k) => if (k == NameKind.free && env.scope.kind == .function && env.kindOf n == some .cell) then (n, NameKind.cell) else (n, k)).lookup y = some .free
  | [], _, h => by simp at h
  | (n, k0) :: r, y, h => by
    rw [List.map_cons]
    show List.lookup y ((if (k0 == NameKind.free && env.scope.kind == .function && env.kindOf n == some .cell) = true then (n, NameKind.cell) else (n, k0)) :: _) = _ ∨ List.lookup y ((if (k0 == NameKind.free && env.scope.kind == .function && env.kindOf n == some .cell) = true then (n, NameKind.cell) else (n, k0)) :: _) = _
    cases hx : y == n with
    | true =>
      rw [List.lookup_cons, hx] at h
      cases h
      by_cases hb : ((NameKind.free == NameKind.free) && env.scope.kind == .function && env.kindOf n == some .cell) = true
      · rw [if_pos hb, List.lookup_cons, hx]; exact .inl rfl
      · rw [if_neg hb, List.lookup_cons, hx]; exact .inr rfl
    | false =>
      rw [List.lookup_cons, hx] at h
      by_cases hb : (k0 == NameKind.free && env.scope.kind == .function && env.kindOf n == some .cell) = true
      · rw [if_pos hb, List.lookup_cons, hx]; exact relabel_free h
      · rw [if_neg hb, List.lookup_cons, hx]; exact relabel_free h
theorem comp_core {X : Cx} {elt tg iter : Expr} {ifs : List Expr} {scope : Scope} {pos ipos : Pos} {Nc : List Str} {ix : List (Option Nat)} {wi : TI} {g : TG} {tc : TT} {te : TE} {use : Option (Value → Sem Unit)} {Q' : Value → Shared → Prop} {R : List V → Hp → Prop}
    {pins : List (Addr × Obj)} {σ : St} {H : Hp} {s : Shared} (hc : X.calm = true)
    (hcell : ∀ y ∈ scope.names, y.2 ≠ .cell) (hkind : scope.kind = .function) (hnames : ∀ y ∈ scope.names, y.2 = .local → scope.names.lookup y.1 = some .local)
    (hfree : ∀ y ∈ scope.names, y.2 = .free → X.env.kindOf y.1 = some .cell ∨ X.env.kindOf y.1 = some .free) (hvis : ∀ y k, (relabel scope X.env).names.lookup y = some k → k = .cell ∨ k = .free → ∃ z ∈ scope.names, z.1 = y ∧ z.2 = .free)
    (hlen : ix.length = Nc.length) (hix : ∀ (i : Nat) (x : Str) (j : Nat), Nc[i]? = some x → ix[i]? = some (some j) → X.N[j]? = some x ∧ Vis X.env.scope x ∧ (X.env.kindOf x = some .local → False) ∧ ((relabel scope X.env).names.lookup x = some .cell ∨ (relabel scope X.env).names.lookup x = some .free))
    (hi : PI X tg iter wi) (hg : ∀ cl s H C fp, PG (cxComp X Nc scope cl s H C fp) tg g) (hifs : ∀ cl s H C fp, PTs (cxComp X Nc scope cl s H C fp) ifs tc) (he : ∀ cl s H C fp, PE (cxComp X Nc scope cl s H C fp) elt te)
    (hs : ∀ x, foldedSetIterable iter X.env x = pure x) (I : Inv X pins σ H s) (h : tCompR wi ix g tc te σ H R)
    (fin : ∀ (D C : Addr) (oC : Obj) (ys : List V) (H3 : Hp) (s4 : Shared), (∃ m, ∀ h' : Heap, h'.get? C = some oC → h'.Ns C m) → H3 D = none → (upd H3 D (.lst ys)) C = none → Young X pins C → Inv X (pins ++ [(C, oC)]) σ (upd H3 D (.lst ys)) s4 → R ys H3 →
      compPost (model X.prog X.w) X.A X.xe use Q' (.ref D) C (.ok .next) s4) :
    wpAny (model X.prog X.w) X.A (comprehension (.ListComp elt [⟨tg, iter, ifs, 0⟩] scope pos) scope X.env ipos (newList []) false (eval iter X.env) use) Q' X.xe s := by
  obtain ⟨cl, hclos, clX, clF⟩ := closure_of (scope := scope) (env := X.env) fun x hx hf => I.ok.has x.1 (hfree x hx hf)
  refine wpAny_comprehension_free (use := use) rfl hs hclos hkind hnames (thn (hi pins s σ H _ I h) fun v s1 h1 => thn h1 fun itv s2 h2 => ?_)
  obtain ⟨it, fp, tn, J, H1, rfl, I1, T, t0, hfp, W, ⟨m0, w0⟩, turn⟩ := h2
  refine wpAny_newObj_type (wpAny_newFunctionEnv hcell (by intro y hy; simp at hy) (fun h₁ hns₁ hsb₁ => ?_) hkind)
  dsimp only at hns₁ hsb₁ ⊢
  generalize hH2 : s2.heap.push { cls := .type "list", dict := none, data := .seq ([] : List Value).toArray } = H2 at hns₁ hsb₁ ⊢
  have hC : H2.objs.size = s2.heap.objs.size + 1 := by rw [← hH2, Heap.size_push]
  have hDC : s2.heap.objs.size ≠ H2.objs.size := by rw [hC]; exact Nat.ne_of_lt (Nat.lt_succ_self _)
  have old : ∀ b o, s2.heap.get? b = some o → h₁.get? b = some o := fun b o e => by
    have hb := Heap.lt_size e
    exact hsb₁.extBut b o (by rw [hC]; exact Nat.ne_of_lt (Nat.lt_succ_of_lt hb)) (Heap.get?_push_of_some _ (hH2 ▸ Heap.get?_push_of_some _ e))
  obtain ⟨e0, hacc⟩ : ∃ e0, h₁.get? s2.heap.objs.size = some (seqObj "list" ([] : List Value).toArray e0) := ⟨_, hsb₁.extBut _ _ hDC (Heap.get?_push_of_some _ (hH2 ▸ Heap.get?_push_size _ rfl))⟩
  generalize hCC : H2.objs.size = C at hns₁ hsb₁ hDC hC ⊢
  generalize hDD : s2.heap.objs.size = D at hDC hC hacc ⊢
  have hDle : s2.heap.objs.size ≤ D := Nat.le_of_eq hDD
  have hCle : s2.heap.objs.size ≤ C := by rw [hC, ← hDD]; exact Nat.le_succ _
  have yD := I1.young hDle
  have nD : H1 D = none := I1.hok.fresh hDle
  have nC : H1 C = none := I1.hok.fresh hCle
  have fpLt : ∀ b ∈ fp, b < s2.heap.objs.size := fun b hb => by
    obtain ⟨o, e, _⟩ := T.obj 0 _ t0 b hb
    exact Heap.lt_size e
  have fpD : D ∉ fp := fun hm => absurd (fpLt _ hm) (Nat.not_lt.mpr hDle)
  have fpC : C ∉ fp := fun hm => absurd (fpLt _ hm) (Nat.not_lt.mpr hCle)
  have frN : ∀ b ∈ frs X.stack, b < s2.heap.objs.size := fun b hb => by
    obtain ⟨_, o, ho, _⟩ := I1.stack.mem hb
    exact Heap.lt_size ho
  have frFp : ∀ b ∈ fp, b ∉ frs X.stack := fun b hb hm => by
    rcases List.mem_cons.mp (I1.stkSub b hm) with z | z
    · exact (hfp b hb).2.1 z
    · exact (hfp b hb).2.2.1 z
  -- the block's context
  have ok : (cxComp X Nc scope cl s2 H1 C fp).Ok :=
    ⟨I.ok.mod, (by show (relabel scope X.env).kind = _; exact hkind), I.ok.glob, I.ok.blt, hCle, (fun x y c e1 e2 => I.ok.inj x y c (clX x c e1) (clX y c e2)),
      (fun x hx => by
        obtain ⟨z, hz, rfl, hf⟩ : ∃ z ∈ scope.names, z.1 = x ∧ z.2 = .free := by
          rcases hx with hx | hx
          · exact hvis x _ hx (.inl rfl)
          · exact hvis x _ hx (.inr rfl)
        exact clF z hz hf), (fun x c z => nomatch z), I.ok.hd, I.ok.frames, .inl rfl,
      (fun b hb => ⟨fun z => fpC ((show b = C from z) ▸ hb), fun x c e => (hfp b hb).2.2.2.2.1 x c (clX x c e)⟩), (fun b o e => I1.bs b o e), Nat.le_trans I.ok.bsz I1.sz,
      (fun b o e hb => by
        rcases (hfp b hb).2.2.2.1 with z | z
        · exact I.ok.noex b o e z
        · have := Heap.lt_size (I.ok.bs b o e).1
          exact absurd this (Nat.not_lt.mpr z)),
      frFp, I1.stack, I1.stkFree⟩
  have start : ∀ tk, Inv (cxComp X Nc scope cl s2 H1 C fp) [(D, seqObj "list" ([] : List Value).toArray e0)] (seen ix σ) H1 { s2 with heap := h₁, toks := tk } := fun tk => by
    refine ⟨ok, rfl, I1.bare, Un.kept old, ⟨_, hns₁, fun i x v e1 e2 e3 => ?_⟩, fun x c e => ?_, nC, fun x c e => I1.freeC x c (clX x c e), fun p hp => ?_, I1.hok.kept old, by show (seen ix σ).length = Nc.length; unfold seen; rw [List.length_map]; exact hlen⟩
    · unfold seen at e2
      rw [List.getElem?_map] at e2
      cases ei : ix[i]? with
      | none => rw [ei] at e2; cases e2
      | some o =>
        rw [ei] at e2
        cases o with
        | none => cases e2
        | some j =>
          have e2' : (σ[j]?).getD none = some v := Option.some.inj e2
          have e2'' : σ[j]? = some (some v) := by
            cases ej : σ[j]? with
            | none => rw [ej] at e2'; cases e2'
            | some z => rw [ej] at e2'; exact congrArg some e2'
          obtain ⟨n1, n2, n3, n4⟩ := hix i x j e1 ei
          obtain ⟨m, hm, hl⟩ := I1.loc
          obtain ⟨u, ru, lk⟩ := hl j x v n1 e2'' n2
          refine ⟨u, ru, .inr ⟨n4, ?_⟩⟩
          rcases lk with ⟨k, _⟩ | ⟨_, c, ec, hc'⟩
          · exact (n3 k).elim
          · obtain ⟨z, hz, rfl, hf⟩ : ∃ z ∈ scope.names, z.1 = x ∧ z.2 = .free := by
              rcases n4 with hx | hx
              · exact hvis x _ hx (.inl rfl)
              · exact hvis x _ hx (.inr rfl)
            obtain ⟨c', ec'⟩ := clF z hz hf
            have : c' = c := Option.some.inj ((clX _ _ ec').symm.trans ec)
            subst this
            obtain ⟨o, ho, hd⟩ := hc'
            exact ⟨c', ec', o, old _ o ho, hd⟩
    · obtain ⟨v, o, ho, hd⟩ := I1.cell x c (clX x c e)
      exact ⟨v, o, old _ o ho, hd⟩
    · have hp' : p = (D, seqObj "list" ([] : List Value).toArray e0) := by simpa [cxComp] using hp
      subst hp'
      exact ⟨hacc, nD, hDC, fun hm => absurd (frN _ hm) (Nat.not_lt.mpr hDle), fun v z => by cases z⟩
  have stat : ∀ {ks : List Value} {e : Nat} {H' : Hp}, (∀ b ∈ fp, H' b = none) → ∀ b ∈ fp, FpOk (cxComp X Nc scope cl s2 H1 C fp) [(D, seqObj "list" ks.toArray e)] H' b := fun {ks e H'} hn b hb =>
    ⟨hn b hb, fun z => fpC ((show b = C from z) ▸ hb), frFp b hb, .inl hb, fun x c ec => (hfp b hb).2.2.2.2.1 x c (clX x c ec), fun p hp z => by
      have hp' : p = (D, seqObj "list" ks.toArray e) := by simpa [cxComp] using hp
      subst hp'
      exact fpD ((show b = D from z.symm) ▸ hb)⟩
  have loop : ∀ tk, codeAny (model X.prog X.w) X.A (.compLoop (.ListComp elt [⟨tg, iter, ifs, 0⟩] scope pos) 0 (.ref it) (.ref D) (compEnvC scope cl C X.env)) (compPost (model X.prog X.w) X.A X.xe use Q' (.ref D) C) { s2 with heap := h₁, toks := tk } := fun tk => by
    refine codeAny_loop rfl (fun n s' => ∃ i ys ks e σ' H', Inv (cxComp X Nc scope cl s2 H1 C fp) [(D, seqObj "list" ks.toArray e)] σ' H' s' ∧ Vals ys ks ∧ tn i s'.heap ∧ (∀ b ∈ fp, H' b = none) ∧ W i n ys σ' H') ?_ m0
      ⟨0, [], [], e0, _, H1, start tk, .nil, T.keep _ _ _ t0 fun b _ o e => old b o e, fun b hb => (hfp b hb).1, w0⟩
    rintro n s3 ⟨i, ys, ks, e, σ3, H3, I3, rv, st3, fr3, w3⟩
    show wpAny _ X.A ((compTurn (.ListComp elt [⟨tg, iter, ifs, 0⟩] scope pos) 0 (.ref it) (.ref D) (compEnvC scope cl C X.env)).onRaise (fun x => do noteFrame x (compEnvC scope cl C X.env); theTreesLotGoes x)) _ _ s3
    refine wpAny_noted ?_
    rw [compTurn_list]
    refine wpAny_bind (wpAny_standAt ?_)
    have lk := rv.length
    rcases turn i n ys σ3 H3 w3 with ⟨stop, sz, q⟩ | ⟨go, sz, N, hN, step⟩
    · refine wpAny_bind (thn (T.done (cxComp X Nc scope cl s2 H1 C fp) rfl rfl rfl hc i _ s3 σ3 H3 _ I3 (stat fr3) st3 stop) fun r s4 ⟨hr, I4⟩ => ?_)
      subst hr
      refine wpAny_pure ?_
      obtain ⟨m, ⟨oC, esC, epC, hoC, hdC, rC⟩, _⟩ := I4.loc
      have hoC : s4.heap.get? C = some oC := hoC
      have pD := I4.pin (D, seqObj "list" ks.toArray e) (List.mem_append_right _ List.mem_cons_self)
      have nC4 : H3 C = none := I4.free
      have yC := I1.young hCle
      have I5 : Inv X pins σ H3 s4 := I1.call' (ch := fp) I4.os (show Un (frs X.stack) fp H1 H3 s2.heap s4.heap from I4.base) I4.hok I4.bare fun b hb => ⟨(hfp b hb).2.2.2.1, (hfp b hb).2.1, (hfp b hb).2.2.2.2.1, (hfp b hb).2.2.2.2.2⟩
      have I6 := I5.track (p := D) (o := .lst ys) pD.2.1 (Heap.get?_none_of_le (Nat.le_trans I1.sz hDle)) yD.lo yD.ce yD.pi ⟨sz, ks, e, rv, pD.1⟩
      have nC6 : (upd H3 D (.lst ys)) C = none := by rw [upd_ne hDC.symm]; exact nC4
      have I7 : Inv X (pins ++ [(C, oC)]) σ (upd H3 D (.lst ys)) s4 := I6.pins_of fun p hp => by
        rcases List.mem_append.mp hp with hp | hp
        · exact I6.pin p (List.mem_append_right _ hp)
        · obtain rfl := List.mem_singleton.mp hp
          exact ⟨hoC, nC6, yC.lo, yC.fs, fun v z => by rw [hdC] at z; cases z⟩
      exact fin D C oC ys H3 s4 ⟨m, fun h' e' => ⟨oC, esC, epC, e', hdC, rC⟩⟩ pD.2.1 nC6 yC I7 q
    · refine wpAny_bind (thn (T.item (cxComp X Nc scope cl s2 H1 C fp) rfl rfl rfl hc i _ s3 σ3 H3 _ I3 (stat fr3) st3 go) fun r s4 ⟨u, hr, h4⟩ => ?_)
      subst hr
      refine wpAny_bind (thn h4 fun _ s5 ⟨x, H5, I5, r5, y5, st5, fr5⟩ => ?_)
      have I5' := I5.pinned (stat fr5) (T.obj _ _ st5)
      refine wpAny_bind (wpAny_mono (hg cl s2 H1 C fp _ s5 σ3 H5 x u _ I5' r5 (step x H5 y5)) (fun _ s6 ⟨σ6, H6, I6, q6⟩ => ?_) fun _ _ z => False.elim z)
      refine wpAny_bind (wpAny_mono (hifs cl s2 H1 C fp _ s6 σ6 H6 _ I6 q6) (fun ok s7 ⟨H7, I7, q7⟩ => ?_) fun _ _ z => False.elim z)
      have fin : ∀ {ks' : List Value} {e' : Nat} {ys' : List V} {σ8 : St} {H8 : Hp} {s8 : Shared}, Inv (cxComp X Nc scope cl s2 H1 C fp) ([(D, seqObj "list" ks'.toArray e')] ++ pinsAt fp s5.heap) σ8 H8 s8 → Vals ys' ks' → N ys' σ8 H8 →
          ∃ m, m < n ∧ ∃ i ys ks e σ' H', Inv (cxComp X Nc scope cl s2 H1 C fp) [(D, seqObj "list" ks.toArray e)] σ' H' s8 ∧ Vals ys ks ∧ tn i s8.heap ∧ (∀ b ∈ fp, H' b = none) ∧ W i m ys σ' H' := fun {ks' e' ys' σ8 H8 s8} I8 rv' n8 => by
        obtain ⟨m', hm, w8⟩ := hN _ σ8 H8 n8
        refine ⟨m', hm, i + 1, ys', ks', e', σ8, H8, I8.unpinned, rv', T.keep _ _ _ st5 fun b hb o eo => (I8.pin (b, o) (List.mem_append_right _ (List.mem_append_right _ (mem_pinsAt hb eo)))).1, fun b hb => ?_, w8⟩
        obtain ⟨o, eo, d⟩ := T.obj _ _ st5 b hb
        exact (I8.pin (b, o) (List.mem_append_right _ (List.mem_append_right _ (mem_pinsAt hb eo)))).2.1
      cases ok with
      | false =>
        have q7 := iteF_of q7
        exact wpAny_pure ⟨rfl, fin I7 rv q7⟩
      | true =>
        have q7 := iteT_of q7
        refine wpAny_bind (wpAny_bind (wpAny_mono (he cl s2 H1 C fp _ s7 σ6 H7 _ I7 q7) (fun y s8 ⟨vy, H8, I8, ry, n8⟩ => ?_) fun _ _ z => False.elim z))
        have pD := I8.pin (D, seqObj "list" ks.toArray e) (List.mem_append_right _ (List.mem_append_left _ List.mem_cons_self))
        refine wpAny_bind (wpAny_list_append_plain (hsz := by rw [List.size_toArray, ← lk]; exact sz) ⟨e, pD.1⟩ fun h9 hl9 hs9 => ?_)
        refine wpAny_pure (wpAny_pure ⟨rfl, ?_⟩)
        obtain ⟨e9, hl9⟩ := hl9
        have ea : ks.toArray.push y = (ks ++ [y]).toArray := by simp
        rw [ea] at hl9
        refine fin (ks' := ks ++ [y]) (e' := e9) (ys' := ys ++ [vy]) ?_ (Vals.append rv (.cons ry .nil)) n8
        have ne9 : ∀ p ∈ pinsAt fp s5.heap, p.1 ≠ D := fun p hp z => fpD (z ▸ (of_pinsAt hp).1)
        have yDb : Young (cxComp X Nc scope cl s2 H1 C fp) (pinsAt fp s5.heap) D := ⟨hDC, fun hm => absurd (frN _ hm) (Nat.not_lt.mpr hDle), .inr hDle, fun x c ec => yD.ce x c (clX x c ec), fun p hp => ne9 p (by simpa [cxComp] using hp)⟩
        have I8a : Inv (cxComp X Nc scope cl s2 H1 C fp) (pinsAt fp s5.heap) σ6 H8 s8 := I8.pins_of fun p hp => I8.pin p (List.mem_append_right _ (List.mem_append_right _ hp))
        have I8b := I8a.record yDb pD.2.1 hs9
        exact I8b.pins_of fun p hp => by
          rcases List.mem_append.mp hp with hp | hp
          · obtain rfl := List.mem_singleton.mp hp
            exact ⟨hl9, pD.2.1, yDb.lo, yDb.fs, fun v z => by cases z⟩
          · exact I8b.pin p (List.mem_append_right _ hp)
  exact codeAny_compStart_list (loop _) (T.self _ 0 _ _ _ (T.keep _ _ _ t0 fun b _ o e => old b o e) (loop _))
theorem compOk_all {X : Cx} {scope : Scope} {Nc : List Str} {ix : List (Option Nat)} (h : compOk scope X.env.scope X.N Nc ix = true) : (∀ y ∈ scope.names, y.2 ≠ .cell) ∧ scope.kind = .function ∧ (∀ y ∈ scope.names, y.2 = .local → scope.names.lookup y.1 = some .local) ∧
    (∀ y ∈ scope.names, y.2 = .free → X.env.kindOf y.1 = some .cell ∨ X.env.kindOf y.1 = some .free) ∧ ix.length = Nc.length ∧
    ∀ (i : Nat) (x : Str) (j : Nat), Nc[i]? = some x → ix[i]? = some (some j) → X.N[j]? = some x ∧ Vis X.env.scope x ∧ (X.env.kindOf x = some .local → False) ∧ ((relabel scope X.env).names.lookup x = some .cell ∨ (relabel scope X.env).names.lookup x = some .free) := by
  unfold compOk at h
  simp only [Bool.and_eq_true, beq_iff_eq, List.all_eq_true, Bool.or_eq_true, bne_iff_ne] at h
  obtain ⟨⟨⟨⟨⟨h1, h2⟩, h3⟩, h4⟩, h5⟩, h6⟩ := h
  refine ⟨h1, h2, fun y hy e => ?_, fun y hy e => ?_, h5, fun i x j e1 e2 => ?_⟩
  · rcases h3 y hy with z | z
    · exact absurd e z
    · exact z
  · rcases h4 y hy with (z | z) | z
    · exact absurd e z
    · exact .inl z
    · exact .inr z
  · have q := h6 i (List.mem_range.mpr (List.getElem?_eq_some_iff.mp e1).1)
    rw [e1, e2] at q
    simp only [Bool.and_eq_true, beq_iff_eq, Bool.or_eq_true] at q
    obtain ⟨⟨q1, q2⟩, q3⟩ := q
    refine ⟨q1, ?_, fun z => ?_, relabel_free q3⟩
    · rcases q2 with z | z
      · exact .inr (.inl z)
      · exact .inr (.inr z)
    · have z' : X.env.scope.names.lookup x = some .local := z
      rcases q2 with y | y
      · rw [y] at z'; cases z'
      · rw [y] at z'; cases z'
theorem pe_comp {X : Cx} {elt tg iter : Expr} {ifs : List Expr} {scope : Scope} {pos : Pos} {Nc : List Str} {ix : List (Option Nat)} {wi : TI} {g : TG} {tc : TT} {te : TE} (hc : X.calm = true) (hok : compOk scope X.env.scope X.N Nc ix = true)
    (hi : PI X tg iter wi) (hg : ∀ cl s H C fp, PG (cxComp X Nc scope cl s H C fp) tg g) (hifs : ∀ cl s H C fp, PTs (cxComp X Nc scope cl s H C fp) ifs tc) (he : ∀ cl s H C fp, PE (cxComp X Nc scope cl s H C fp) elt te)
    (hs : ∀ x, foldedSetIterable iter X.env x = pure x := by intro _; rfl) : PE X (.ListComp elt [⟨tg, iter, ifs, 0⟩] scope pos) (tComp wi ix g tc te) := by
  intro pins s σ H Q I h
  obtain ⟨h1, h2, h3, h4, h5, h6⟩ := compOk_all hok
  rw [eval_ListComp]
  refine comp_core (Q' := EP X pins σ Q) hc h1 h2 h3 h4 (fun y k e hk => relabel_of h1 e hk) h5 h6 hi hg hifs he hs I h fun D C oC ys H3 s4 hN nD nC yC I4 q => ?_
  have pC := I4.pin (C, oC) (List.mem_append_right _ (List.mem_append_right _ List.mem_cons_self))
  obtain ⟨m, hm⟩ := hN
  exact ⟨m, hm _ pC.1, fun h' hsb => ⟨.ref D, _, I4.unpinned.record yC nC hsb, rfl, q D nD⟩⟩
def sComp (i : Nat) (wi : TI) (ix : List (Option Nat)) (g : TG) (tc : TT) (te : TE) : TS := fun D σ H => tCompR wi ix g tc te σ H fun ys H' => ∀ l, H' l = none → D.nx (σ.set i (some (.ref l))) (upd H' l (.lst ys))
theorem ps_comp {X : Cx} {i : Nat} {y : Str} {elt tg iter : Expr} {ifs : List Expr} {scope : Scope} {pos spos py : Pos} {Nc : List Str} {ix : List (Option Nat)} {wi : TI} {g : TG} {tc : TT} {te : TE} (hN : X.N.Nodup) (hi' : X.N[i]? = some y) (hx : Loc X.env.scope y) (hc : X.calm = true) (hok : compOk scope X.env.scope X.N Nc ix = true)
    (hi : PI X tg iter wi) (hg : ∀ cl s H C fp, PG (cxComp X Nc scope cl s H C fp) tg g) (hifs : ∀ cl s H C fp, PTs (cxComp X Nc scope cl s H C fp) ifs tc) (he : ∀ cl s H C fp, PE (cxComp X Nc scope cl s H C fp) elt te)
    (hs : ∀ x, foldedSetIterable iter X.env x = pure x := by intro _; rfl) (hsw : swapsWith (.ListComp elt [⟨tg, iter, ifs, 0⟩] scope pos) (some (.Name y py)) spos.line X.env = pure true := by rfl)
    (hf : X.fn y = true ∨ X.env.scope.names.lookup y = some .local := by first | exact .inl rfl | exact .inr rfl | assumption) : PS X (.Assign [.Name y py] (.ListComp elt [⟨tg, iter, ifs, 0⟩] scope pos) spos) (sComp i wi ix g tc te) := by
  intro pins s σ H D I h
  obtain ⟨h1, h2, h3, h4, h5, h6⟩ := compOk_all hok
  rw [exec_Assign_Name_used _ _ _ _ hsw]
  refine wpAny_bind (wpAny_standAt (wpAny_bind ?_))
  show wpAny _ X.A (do let _ ← comprehension (.ListComp elt [⟨tg, iter, ifs, 0⟩] scope pos) scope X.env _ (newList []) false (eval iter X.env) (some (assign (.Name y py) X.env))) _ _ s
  refine wpAny_bind (wpAny_mono (comp_core (Q' := fun _ s' => SP X pins D .next s') hc h1 h2 h3 h4 (fun y k e hk => relabel_of h1 e hk) h5 h6 hi hg hifs he hs I h fun Da C oC ys H3 s4 hN' nD nC yC I4 q => ?_)
    (fun _ s' hq => wpAny_pure (wpAny_pure hq)) fun _ _ e => e)
  show wpAny _ _ (assign (.Name y py) X.env (.ref Da)) _ _ s4
  refine thn (pg_name (i := i) hN hi' hx hf _ s4 σ _ (.ref Da) (.ref Da) (fun σ' H' => σ' = σ.set i (some (.ref Da)) ∧ H' = upd H3 Da (.lst ys)) I4 rfl ⟨rfl, rfl⟩) fun _ s5 ⟨σ5, H5, I5, e1, e2⟩ => ?_
  subst e1 e2
  have pC := I5.pin (C, oC) (List.mem_append_right _ (List.mem_append_right _ List.mem_cons_self))
  obtain ⟨m, hm⟩ := hN'
  exact ⟨m, hm _ pC.1, fun h' hsb => ⟨_, _, I5.unpinned.record yC nC hsb, q Da nD⟩⟩
end L2
set_option Elab.async false
set_option linter.all false
set_option maxRecDepth 100000
namespace L2
open PySem PySem.Spec PyProof.Rows
section
variable {X : Cx}
theorem lst_walk {pins : List (Addr × Obj)} {σ : St} {H : Hp} {s : Shared} {a : Addr} {its : List Value} (I : Inv X pins σ H s) (tp : s.heap.IsList a its.toArray) (hc : X.calm = true) {Q : Value → Shared → Prop}
    (q : ∀ s2 : Shared, s2 = { s with heap := s.heap.push { cls := .type "list_iterator", data := .fields #[.ref a, .int 0 0] } } → Walks X.prog X.w X.A.in1 s.heap.objs.size [s.heap.objs.size, a] [s.heap.objs.size] its.toArray.size (fun i v => its.toArray[i]? = some v) (fun i h => h.IsListIter s.heap.objs.size a i ∧ h.IsList a its.toArray) →
      (s2.heap.IsListIter s.heap.objs.size a 0 ∧ s2.heap.IsList a its.toArray) → (∀ b ∈ [s.heap.objs.size, a], b < s2.heap.objs.size) → Q (.ref s.heap.objs.size) s2) : wpAny (model X.prog X.w) X.A.in1 (pyIter (.ref a)) Q X.xe s := by
  have hlt : a < s.heap.objs.size := by obtain ⟨_, e, _⟩ := tp; exact Heap.lt_size e
  refine wpAny_pyIter_list tp (q _ rfl (Walks.list (by exact I.ok.hd hc) _ _ (Nat.ne_of_lt hlt) _) ⟨⟨_, Heap.get?_push_size _ rfl, rfl, rfl⟩, ?_⟩ fun b hb => ?_)
  · obtain ⟨o, e, r⟩ := tp
    exact ⟨o, Heap.get?_push_of_some _ e, r⟩
  · show b < (s.heap.push _).objs.size
    rw [Heap.size_push]
    rcases List.mem_cons.mp hb with rfl | hb
    · exact Nat.lt_succ_self _
    · rw [List.mem_singleton.mp hb]
      exact Nat.lt_succ_of_lt hlt
theorem bools_of {bs : List Bool} {its : List Value} (r : Vals (bs.map V.bl) its) : ∀ (i : Nat) (v : Value), its.toArray[i]? = some v → v = Value.bool (bs.getD i false) := by
  intro i v e
  rw [List.getElem?_toArray] at e
  have hl := r.length
  have hi : i < its.length := (List.getElem?_eq_some_iff.mp e).1
  rw [List.length_map] at hl
  have hx : (bs.map V.bl)[i]? = some (.bl (bs.getD i false)) := by
    rw [List.getElem?_map, List.getElem?_eq_getElem (by omega)]
    simp [List.getD, show i < bs.length by omega]
  obtain ⟨u, hu, ru⟩ := r.get hx
  rw [e] at hu
  cases hu
  exact ru
theorem all_range (bs : List Bool) : (List.range bs.length).all (fun i => bs.getD i false) = bs.all id := by
  rw [Bool.eq_iff_iff, List.all_eq_true, List.all_eq_true]
  constructor
  · intro h b hb
    obtain ⟨i, hi, rfl⟩ := List.mem_iff_getElem.mp hb
    have := h i (List.mem_range.mpr hi)
    rwa [getD_at hi] at this
  · intro h i hi
    have hi := List.mem_range.mp hi
    rw [getD_at hi]
    exact h _ (List.getElem_mem hi)
theorem any_range (bs : List Bool) : (List.range bs.length).any (fun i => bs.getD i false) = bs.any id := by
  rw [Bool.eq_iff_iff, List.any_eq_true, List.any_eq_true]
  constructor
  · rintro ⟨i, hi, h⟩
    have hi := List.mem_range.mp hi
    rw [getD_at hi] at h
    exact ⟨_, List.getElem_mem hi, h⟩
  · rintro ⟨b, hb, h⟩
    obtain ⟨i, hi, rfl⟩ := List.mem_iff_getElem.mp hb
    exact ⟨i, List.mem_range.mpr hi, by rw [getD_at hi]; exact h⟩
theorem call_allL (hc : X.calm = true) : CallR X (.builtin "all") (fun xs H Q => ∃ (a : Addr) (bs : List Bool), xs = [.ref a] ∧ SqL X.K H a (bs.map V.bl) ∧ Q (.bl (bs.all id)) H) := by
  intro pins s σ H xs us Q I r h
  obtain ⟨a, bs, rfl, hq, q⟩ := h
  obtain ⟨u, rfl, ru⟩ := vals1 r
  cases ru
  obtain ⟨its, rv, tp, hz⟩ := I.list hq
  have hl := rv.length
  rw [List.length_map] at hl
  refine call_all_walk (lst_walk I tp.isList hc fun s2 e W st hfp => ?_)
  subst e
  refine ⟨_, _, _, _, _, _, fun i => bs.getD i false, rfl, W, st, fun i v A' Q' E' hP hQ => ?_, fun h' tk hk => ?_⟩
  · have := bools_of rv i v hP
    subst this
    exact wpAny_truthy_bool hQ
  · refine ⟨.bl _, H, I.kept (t' := tk) fun b o e => hk b o (fun m => ?_) (Heap.get?_push_of_some _ e), ?_, q⟩
    · have := Heap.lt_size e
      rw [List.mem_singleton.mp m] at this
      exact Nat.lt_irrefl _ this
    · show Value.bool _ = Value.bool _
      rw [List.size_toArray, ← hl, all_range]
theorem call_anyL (hc : X.calm = true) : CallR X (.builtin "any") (fun xs H Q => ∃ (a : Addr) (bs : List Bool), xs = [.ref a] ∧ SqL X.K H a (bs.map V.bl) ∧ Q (.bl (bs.any id)) H) := by
  intro pins s σ H xs us Q I r h
  obtain ⟨a, bs, rfl, hq, q⟩ := h
  obtain ⟨u, rfl, ru⟩ := vals1 r
  cases ru
  obtain ⟨its, rv, tp, hz⟩ := I.list hq
  have hl := rv.length
  rw [List.length_map] at hl
  refine call_any_walk (lst_walk I tp.isList hc fun s2 e W st hfp => ?_)
  subst e
  refine ⟨_, _, _, _, _, _, fun i => bs.getD i false, rfl, W, st, fun i v A' Q' E' hP hQ => ?_, fun h' tk hk => ?_⟩
  · have := bools_of rv i v hP
    subst this
    exact wpAny_truthy_bool hQ
  · refine ⟨.bl _, H, I.kept (t' := tk) fun b o e => hk b o (fun m => ?_) (Heap.get?_push_of_some _ e), ?_, q⟩
    · have := Heap.lt_size e
      rw [List.mem_singleton.mp m] at this
      exact Nat.lt_irrefl _ this
    · show Value.bool _ = Value.bool _
      rw [List.size_toArray, ← hl, any_range]
theorem call_minL (hc : X.calm = true) : CallR X (.builtin "min") (fun xs H Q => ∃ (a : Addr) (ns : List Int), xs = [.ref a] ∧ SqL X.K H a (ns.map V.int) ∧ 0 < ns.length ∧ ∀ M, M ∈ ns → (∀ z ∈ ns, M ≤ z) → Q (.int M) H) := by
  intro pins s σ H xs us Q I r h
  obtain ⟨a, ns, rfl, hq, hn, q⟩ := h
  obtain ⟨u, rfl, ru⟩ := vals1 r
  cases ru
  obtain ⟨its, rv, tp, hz⟩ := I.list hq
  have hl := rv.length
  rw [List.length_map] at hl
  refine call_min_walk (lst_walk I tp.isList hc fun s2 e W st hfp => ?_)
  subst e
  refine ⟨_, _, _, _, _, _, _, rfl, W, st, hfp, by simp; omega, CmpOf.ints_lt (fun i => ns.getD i 0) (nums_of rv), fun v h' tk hP hk => ?_⟩
  obtain ⟨t, rfl⟩ := nums_of rv _ _ hP
  obtain ⟨b1, b2⟩ := argBest_lt (fun i => ns.getD i 0) (its.toArray.size - 1)
  rw [List.size_toArray] at b1 b2
  refine ⟨.int _, H, I.kept (t' := tk) fun b o e => hk b o (fun m => ?_) (Heap.get?_push_of_some _ e), ⟨t, rfl⟩, q _ (best_mem ?_) fun z hz => ?_⟩
  · have := Heap.lt_size e
    rw [List.mem_singleton.mp m] at this
    exact Nat.lt_irrefl _ this
  · rw [List.size_toArray]; omega
  · obtain ⟨j, hj, e⟩ := mem_at hz
    rw [← e, List.size_toArray]
    exact b2 j (by omega)
theorem call_maxL (hc : X.calm = true) : CallR X (.builtin "max") (fun xs H Q => ∃ (a : Addr) (ns : List Int), xs = [.ref a] ∧ SqL X.K H a (ns.map V.int) ∧ 0 < ns.length ∧ ∀ M, M ∈ ns → (∀ z ∈ ns, z ≤ M) → Q (.int M) H) := by
  intro pins s σ H xs us Q I r h
  obtain ⟨a, ns, rfl, hq, hn, q⟩ := h
  obtain ⟨u, rfl, ru⟩ := vals1 r
  cases ru
  obtain ⟨its, rv, tp, hz⟩ := I.list hq
  have hl := rv.length
  rw [List.length_map] at hl
  refine call_max_walk (lst_walk I tp.isList hc fun s2 e W st hfp => ?_)
  subst e
  refine ⟨_, _, _, _, _, _, _, rfl, W, st, hfp, by simp; omega, CmpOf.ints_gt (fun i => ns.getD i 0) (nums_of rv), fun v h' tk hP hk => ?_⟩
  obtain ⟨t, rfl⟩ := nums_of rv _ _ hP
  obtain ⟨b1, b2⟩ := argBest_gt (fun i => ns.getD i 0) (its.toArray.size - 1)
  rw [List.size_toArray] at b1 b2
  refine ⟨.int _, H, I.kept (t' := tk) fun b o e => hk b o (fun m => ?_) (Heap.get?_push_of_some _ e), ⟨t, rfl⟩, q _ (best_mem ?_) fun z hz => ?_⟩
  · have := Heap.lt_size e
    rw [List.mem_singleton.mp m] at this
    exact Nat.lt_irrefl _ this
  · rw [List.size_toArray]; omega
  · obtain ⟨j, hj, e⟩ := mem_at hz
    rw [← e, List.size_toArray]
    exact b2 j (by omega)
end
end L2
set_option Elab.async false
set_option linter.all false
set_option maxRecDepth 100000
namespace L2
open PySem PySem.Spec PyProof.Rows
inductive EqR (K : PySem.W.Frag) (H : Hp) : Nat → V → V → Bool → Prop where
  | flat {n : Nat} {x y : V} (fx : flatV x = true) (fy : flatV y = true) : EqR K H n x y (eqV x y)
  | tups {n : Nat} {a b : Addr} {xs ys : List V} {e : Nat → Bool} (ha : SqT K H a xs) (hb : SqT K H b ys) (he : ∀ j, j < xs.length → j < ys.length → EqR K H n (xs.getD j .non) (ys.getD j .non) (e j)) :
      EqR K H (n + 1) (.ref a) (.ref b) ((List.range (min xs.length ys.length)).all e && xs.length == ys.length)
  | lsts {n : Nat} {a b : Addr} {xs ys : List V} {e : Nat → Bool} (ha : SqL K H a xs) (hb : SqL K H b ys) (hl : xs.length = ys.length) (he : ∀ j, j < xs.length → EqR K H n (xs.getD j .non) (ys.getD j .non) (e j)) :
      EqR K H (n + 1) (.ref a) (.ref b) ((List.range xs.length).all e)
  | lens {n : Nat} {a b : Addr} {xs ys : List V} (ha : SqL K H a xs) (hb : SqL K H b ys) (hl : xs.length ≠ ys.length) : EqR K H (n + 1) (.ref a) (.ref b) false
theorem eqV_refl : ∀ {x : V}, flatV x = true → eqV x x = true
  | .non, _ => rfl
  | .bl b, _ => beq_self_eq_true b
  | .int i, _ => beq_self_eq_true i
  | .str s, _ => beq_self_eq_true s
section
variable {X : Cx} {pins : List (Addr × Obj)} {σ : St} {H : Hp} {s : Shared}
theorem EqR.refl (I : Inv X pins σ H s) {n : Nat} {x y : V} {b : Bool} (h : EqR X.K H n x y b) : x = y → b = true := by
  induction h with
  | flat fx fy => intro e; subst e; exact eqV_refl fx
  | @tups n a b xs ys e ha hb he ih =>
    intro z
    cases z
    have := I.tuple_inj ha hb
    subst this
    rw [beq_self_eq_true, Bool.and_true, List.all_eq_true]
    intro j hj
    have hj := List.mem_range.mp hj
    exact ih j (by omega) (by omega) rfl
  | @lsts n a b xs ys e ha hb hl he ih =>
    intro z
    cases z
    have := I.list_inj ha hb
    subst this
    rw [List.all_eq_true]
    intro j hj
    exact ih j (List.mem_range.mp hj) rfl
  | @lens n a b xs ys ha hb hl =>
    intro z
    cases z
    exact absurd (by rw [I.list_inj ha hb]) hl
theorem EqR.at (I : Inv X pins σ H s) {n : Nat} {x y : V} {b : Bool} (h : EqR X.K H n x y b) : ∀ {A : Around} {u v : Value}, RelV x u → RelV y v → A.units + n < cLine → SeqAt.EqAt A s u v b := by
  induction h with
  | flat fx fy => intro A u v ru rv _; exact eqAt_V ru rv fx fy
  | @tups n a b xs ys e ha hb he ih =>
    intro A u v ru rv hu
    cases ru
    cases rv
    by_cases hab : a = b
    · have := EqR.refl I (EqR.tups (n := n) ha hb he) (by rw [hab])
      rw [this, hab]
      exact SeqAt.EqAt.same _
    · obtain ⟨i1, r1, p1, z1⟩ := I.tuple ha
      obtain ⟨i2, r2, p2, z2⟩ := I.tuple hb
      have l1 := r1.length
      have l2 := r2.length
      have := SeqAt.RcAt.tuples (A := A) (e := e) (show s.heap.IsTuple a i1.toArray from p1) (show s.heap.IsTuple b i2.toArray from p2) (by omega) fun j h1 h2 => by
        have h1' : j < i1.length := by simpa using h1
        have h2' : j < i2.length := by simpa using h2
        have q := ih j (by omega) (by omega) (A := A.in1) (val_at r1 h1') (val_at r2 h2') (by show A.units + 1 + n < cLine; omega)
        simpa using q
      rw [List.size_toArray, List.size_toArray, ← l1, ← l2] at this
      exact SeqAt.EqAt.of_refs hab this
  | @lsts n a b xs ys e ha hb hl he ih =>
    intro A u v ru rv hu
    cases ru
    cases rv
    by_cases hab : a = b
    · have := EqR.refl I (EqR.lsts (n := n) ha hb hl he) (by rw [hab])
      rw [this, hab]
      exact SeqAt.EqAt.same _
    · obtain ⟨i1, r1, p1, z1⟩ := I.list ha
      obtain ⟨i2, r2, p2, z2⟩ := I.list hb
      have l1 := r1.length
      have l2 := r2.length
      have := SeqAt.RcAt.lists (A := A) (e := e) p1.isList p2.isList (by simp; omega) (by omega) fun j h1 h2 => by
        have h1' : j < i1.length := by simpa using h1
        have h2' : j < i2.length := by simpa using h2
        have q := ih j (by omega) (A := A.in1) (val_at r1 h1') (val_at r2 h2') (by show A.units + 1 + n < cLine; omega)
        simpa using q
      rw [List.size_toArray, ← l1] at this
      exact SeqAt.EqAt.of_refs hab this
  | @lens n a b xs ys ha hb hl =>
    intro A u v ru rv hu
    cases ru
    cases rv
    obtain ⟨i1, r1, p1, z1⟩ := I.list ha
    obtain ⟨i2, r2, p2, z2⟩ := I.list hb
    have l1 := r1.length
    have l2 := r2.length
    have hab : a ≠ b := fun z => by subst z; exact hl (by rw [I.list_inj ha hb])
    exact SeqAt.EqAt.of_refs hab (SeqAt.RcAt.lists_lengths p1.isList p2.isList (by simp; omega) (by omega))
def rEqR (K : PySem.W.Frag) (neg : Bool) : R2 := fun x y H Q => ∃ (a c : Addr) (n : Nat) (b : Bool), x = .ref a ∧ y = .ref c ∧ EqR K H n x y b ∧ n ≤ 50 ∧ Q (.bl (if neg then !b else b)) H
theorem op_eqR (hu : X.A.units + 64 < cLine) : OpR X (compareOp .Eq) (rEqR X.K false) := by
  intro pins s σ H x y v u Q I rx ry h
  obtain ⟨a, c, n, b, rfl, rfl, e, hn, q⟩ := h
  cases rx
  cases ry
  have fin : ∀ {k : Bool}, k = b → EP X pins σ Q (.bool k) s := fun z => ⟨.bl b, H, I, by rw [z]; rfl, q⟩
  cases e with
  | flat fx fy => exact absurd (show false = true from fx) Bool.false_ne_true
  | @tups n _ _ xs ys e ha hb he =>
    obtain ⟨i1, r1, p1, z1⟩ := I.tuple ha
    obtain ⟨i2, r2, p2, z2⟩ := I.tuple hb
    have l1 := r1.length
    have l2 := r2.length
    refine SeqAt.eq_tupleAt (e := e) (show s.heap.IsTuple a i1.toArray from p1) (show s.heap.IsTuple c i2.toArray from p2) (by omega) (fun j h1 h2 => ?_) (fin ?_)
    · have h1' : j < i1.length := by simpa using h1
      have h2' : j < i2.length := by simpa using h2
      have q := (he j (by omega) (by omega)).at I (A := X.A.in1) (val_at r1 h1') (val_at r2 h2') (by show X.A.units + 1 + n < cLine; omega)
      simpa using q
    · rw [List.size_toArray, List.size_toArray, ← l1, ← l2]
  | @lsts n _ _ xs ys e ha hb hl he =>
    obtain ⟨i1, r1, p1, z1⟩ := I.list ha
    obtain ⟨i2, r2, p2, z2⟩ := I.list hb
    have l1 := r1.length
    have l2 := r2.length
    refine SeqAt.eq_listAt (e := e) p1.isList p2.isList (by simp; omega) (by omega) (fun j h1 h2 => ?_) (fin ?_)
    · have h1' : j < i1.length := by simpa using h1
      have h2' : j < i2.length := by simpa using h2
      have q := (he j (by omega)).at I (A := X.A.in1) (val_at r1 h1') (val_at r2 h2') (by show X.A.units + 1 + n < cLine; omega)
      simpa using q
    · rw [List.size_toArray, ← l1]
  | @lens n _ _ xs ys ha hb hl =>
    obtain ⟨i1, r1, p1, z1⟩ := I.list ha
    obtain ⟨i2, r2, p2, z2⟩ := I.list hb
    have l1 := r1.length
    have l2 := r2.length
    exact SeqAt.eq_list_lengthsAt p1.isList p2.isList (by simp; omega) (by omega) (fin rfl)
end
end L2
set_option Elab.async false
set_option linter.all false
set_option maxRecDepth 100000
namespace L2
open PySem PySem.Spec PyProof.Rows PySem.W
end L2
set_option Elab.async false
set_option linter.all false
set_option maxRecDepth 100000
namespace L2
open PySem PySem.Spec PyProof.Rows
section
variable {g : TG} {tc : TT} {te : TE} {σ0 : St} {H0 : Hp} {R : List V → Hp → Prop} {K : PySem.W.Frag} {a : Addr} {xs : List V}
theorem cmp_gen {J : It} {n : Nat} (Pv : Nat → List V → St → Hp → Prop) (h0 : Pv 0 [] σ0 H0) (hz : ∀ i ys σ H, i ≤ n → Pv i ys σ H → ys.length ≤ sizeLine) (hst : ∀ ys σ H, Pv n ys σ H → J.stop n H ∧ R ys H)
    (hgo : ∀ i ys σ H, i < n → Pv i ys σ H → J.go i H ∧ ∀ x H2, J.yld i H x H2 → g x σ H2 fun σ2 H3 => tc σ2 H3 fun b H4 => if b = true then te σ2 H4 fun y H5 => Pv (i + 1) (ys ++ [y]) σ2 H5 else Pv (i + 1) ys σ2 H4) :
    ∃ W : Nat → Nat → List V → St → Hp → Prop, (∃ m, W 0 m [] σ0 H0) ∧ ∀ i m ys σ' H', W i m ys σ' H' →
      (J.stop i H' ∧ ys.length ≤ sizeLine ∧ R ys H') ∨
      (J.go i H' ∧ ys.length ≤ sizeLine ∧ ∃ N : List V → St → Hp → Prop, (∀ ys' σ2 H2, N ys' σ2 H2 → ∃ m', m' < m ∧ W (i + 1) m' ys' σ2 H2) ∧
        ∀ x H2, J.yld i H' x H2 → g x σ' H2 fun σ2 H3 => tc σ2 H3 fun b H4 => if b = true then te σ2 H4 fun y H5 => N (ys ++ [y]) σ2 H5 else N ys σ2 H4) := by
  refine ⟨fun i m ys σ H => m = n - i ∧ i ≤ n ∧ Pv i ys σ H, ⟨n, by simp, Nat.zero_le _, h0⟩, ?_⟩
  rintro i m ys σ H ⟨rfl, hi, p⟩
  by_cases hlt : i < n
  · obtain ⟨go, turn⟩ := hgo i ys σ H hlt p
    exact .inr ⟨go, hz i ys σ H hi p, Pv (i + 1), fun ys' σ' H' p' => ⟨n - (i + 1), by omega, rfl, hlt, p'⟩, turn⟩
  · have e : i = n := by omega
    subst e
    obtain ⟨st, r⟩ := hst ys σ H p
    exact .inl ⟨st, hz i ys σ H hi p, r⟩
theorem cmp_list (Pv : Nat → List V → St → Hp → Prop) (h0 : Pv 0 [] σ0 H0) (hz : ∀ i ys σ H, i ≤ xs.length → Pv i ys σ H → ys.length ≤ sizeLine ∧ SqL K H a xs) (hst : ∀ ys σ H, Pv xs.length ys σ H → R ys H)
    (hgo : ∀ i x ys σ H, xs[i]? = some x → Pv i ys σ H → g x σ H fun σ2 H3 => tc σ2 H3 fun b H4 => if b = true then te σ2 H4 fun y H5 => Pv (i + 1) (ys ++ [y]) σ2 H5 else Pv (i + 1) ys σ2 H4) :
    ∃ W : Nat → Nat → List V → St → Hp → Prop, (∃ m, W 0 m [] σ0 H0) ∧ ∀ i m ys σ' H', W i m ys σ' H' →
      ((Itl K a).stop i H' ∧ ys.length ≤ sizeLine ∧ R ys H') ∨
      ((Itl K a).go i H' ∧ ys.length ≤ sizeLine ∧ ∃ N : List V → St → Hp → Prop, (∀ ys' σ2 H2, N ys' σ2 H2 → ∃ m', m' < m ∧ W (i + 1) m' ys' σ2 H2) ∧
        ∀ x H2, (Itl K a).yld i H' x H2 → g x σ' H2 fun σ2 H3 => tc σ2 H3 fun b H4 => if b = true then te σ2 H4 fun y H5 => N (ys ++ [y]) σ2 H5 else N ys σ2 H4) :=
  cmp_gen (n := xs.length) Pv h0 (fun i ys σ H hi p => (hz i ys σ H hi p).1) (fun ys σ H p => ⟨⟨xs, (hz _ ys σ H (Nat.le_refl _) p).2, Nat.le_refl _⟩, hst ys σ H p⟩)
    fun i ys σ H hi p => ⟨⟨xs, xs[i], (hz i ys σ H (Nat.le_of_lt hi) p).2, by simp [hi]⟩, fun x H2 y => by
      obtain ⟨e, y⟩ := y
      subst e
      exact hgo i x ys σ _ (y xs (hz i ys σ _ (Nat.le_of_lt hi) p).2) p⟩
theorem cmp_tup (Pv : Nat → List V → St → Hp → Prop) (h0 : Pv 0 [] σ0 H0) (hz : ∀ i ys σ H, i ≤ xs.length → Pv i ys σ H → ys.length ≤ sizeLine ∧ SqT K H a xs) (hst : ∀ ys σ H, Pv xs.length ys σ H → R ys H)
    (hgo : ∀ i x ys σ H, xs[i]? = some x → Pv i ys σ H → g x σ H fun σ2 H3 => tc σ2 H3 fun b H4 => if b = true then te σ2 H4 fun y H5 => Pv (i + 1) (ys ++ [y]) σ2 H5 else Pv (i + 1) ys σ2 H4) :
    ∃ W : Nat → Nat → List V → St → Hp → Prop, (∃ m, W 0 m [] σ0 H0) ∧ ∀ i m ys σ' H', W i m ys σ' H' →
      ((Itt K a).stop i H' ∧ ys.length ≤ sizeLine ∧ R ys H') ∨
      ((Itt K a).go i H' ∧ ys.length ≤ sizeLine ∧ ∃ N : List V → St → Hp → Prop, (∀ ys' σ2 H2, N ys' σ2 H2 → ∃ m', m' < m ∧ W (i + 1) m' ys' σ2 H2) ∧
        ∀ x H2, (Itt K a).yld i H' x H2 → g x σ' H2 fun σ2 H3 => tc σ2 H3 fun b H4 => if b = true then te σ2 H4 fun y H5 => N (ys ++ [y]) σ2 H5 else N ys σ2 H4) :=
  cmp_gen (n := xs.length) Pv h0 (fun i ys σ H hi p => (hz i ys σ H hi p).1) (fun ys σ H p => ⟨⟨xs, (hz _ ys σ H (Nat.le_refl _) p).2, Nat.le_refl _⟩, hst ys σ H p⟩)
    fun i ys σ H hi p => ⟨⟨xs, xs[i], (hz i ys σ H (Nat.le_of_lt hi) p).2, by simp [hi]⟩, fun x H2 y => by
      obtain ⟨e, y⟩ := y
      subst e
      exact hgo i x ys σ _ (y xs (hz i ys σ _ (Nat.le_of_lt hi) p).2) p⟩
theorem cmp_range {lo : Int} {n : Nat} (Pv : Nat → List V → St → Hp → Prop) (h0 : Pv 0 [] σ0 H0) (hz : ∀ i ys σ H, i ≤ n → Pv i ys σ H → ys.length ≤ sizeLine) (hst : ∀ ys σ H, Pv n ys σ H → R ys H)
    (hgo : ∀ i ys σ H, i < n → Pv i ys σ H → g (.int (lo + i)) σ H fun σ2 H3 => tc σ2 H3 fun b H4 => if b = true then te σ2 H4 fun y H5 => Pv (i + 1) (ys ++ [y]) σ2 H5 else Pv (i + 1) ys σ2 H4) :
    ∃ W : Nat → Nat → List V → St → Hp → Prop, (∃ m, W 0 m [] σ0 H0) ∧ ∀ i m ys σ' H', W i m ys σ' H' →
      ((Itr lo n).stop i H' ∧ ys.length ≤ sizeLine ∧ R ys H') ∨
      ((Itr lo n).go i H' ∧ ys.length ≤ sizeLine ∧ ∃ N : List V → St → Hp → Prop, (∀ ys' σ2 H2, N ys' σ2 H2 → ∃ m', m' < m ∧ W (i + 1) m' ys' σ2 H2) ∧
        ∀ x H2, (Itr lo n).yld i H' x H2 → g x σ' H2 fun σ2 H3 => tc σ2 H3 fun b H4 => if b = true then te σ2 H4 fun y H5 => N (ys ++ [y]) σ2 H5 else N ys σ2 H4) :=
  cmp_gen (n := n) Pv h0 hz (fun ys σ H p => ⟨Nat.le_refl _, hst ys σ H p⟩) fun i ys σ H hi p => ⟨hi, fun x H2 y => by
    obtain ⟨e, y⟩ := y
    subst e y
    exact hgo i ys σ _ hi p⟩
end
end L2
set_option Elab.async false
set_option linter.all false
set_option maxRecDepth 100000
namespace L2
open PySem PySem.Spec PyProof.Rows PySem.W
end L2
set_option Elab.async false
set_option linter.all false
set_option maxRecDepth 100000
namespace L2
open PySem PySem.Spec PyProof.Rows PySem.W
def txt (l : List Nat) : Str := ⟨l.toArray⟩
theorem txt_len (l : List Nat) : (txt l).length = l.length := by simp [txt, Str.length]
theorem txt_inj {a b : List Nat} (h : txt a = txt b) : a = b := by
  have : (txt a).cps.toList = (txt b).cps.toList := by rw [h]
  simpa [txt] using this
section
variable {X : Cx}
def rIxC : R2 := fun x y H Q => ∃ (l : List Nat) (i : Int) (c : Nat), x = .str (txt l) ∧ y = .int i ∧ l.length ≤ 1000000 ∧ atI l i = some c ∧ Q (.str (txt [c])) H
theorem ix_sign : IxR X rIxC := by
  intro value slice pins s σ H x y v u Q I rx ry h hs
  obtain ⟨l, i, c, rfl, rfl, hl, hc, q⟩ := h
  exact ix_str value slice pins s σ H _ _ v u Q I rx ry ⟨txt l, i, c, rfl, rfl, by rw [txt_len]; exact Nat.le_trans hl (by decide), by simpa [txt] using hc, q⟩ hs
end
end L2
set_option Elab.async false
set_option linter.all false
set_option maxRecDepth 100000
namespace L2
open PySem PySem.Spec PyProof.Rows PySem.W
section
variable {X : Cx} {K : Frag}
theorem ix_tupK (hK : X.K = K) : IxR X (rIxT K) := by subst hK; exact ix_tup
theorem pg_tupK {es : List Expr} {k : Nat} {t : TGs} {n : Nat} {pos : Pos} (hK : X.K = K) (hc : X.calm = true) (h : PGs X es t)
    (hn : (assignEach es X.env).length = n := by rfl) (hs : (assignEach es X.env).findIdx? (·.1) = none := by rfl) : PG X (.Tuple es k pos) (gTup K n t) := by
  subst hK
  exact pg_tup hc h hn hs
end
end L2
set_option Elab.async false
set_option linter.all false
namespace Lin
abbrev W := List Nat
def glue : List W → W
  | [] => []
  | [a] => a
  | a :: b :: r => a ++ 32 :: glue (b :: r)
theorem glue_snoc : ∀ (ws : List W) (w : W), ws ≠ [] → glue (ws ++ [w]) = glue ws ++ 32 :: w
  | [], _, h => absurd rfl h
  | [a], w, _ => rfl
  | a :: b :: r, w, _ => by
    have ih : glue (b :: (r ++ [w])) = glue (b :: r) ++ 32 :: w := glue_snoc (b :: r) w (by simp)
    show a ++ 32 :: glue (b :: (r ++ [w])) = (a ++ 32 :: glue (b :: r)) ++ 32 :: w
    rw [ih]
    simp
theorem snoc_ind {P : List W → Prop} (h0 : P []) (h1 : ∀ ws w, P ws → P (ws ++ [w])) : ∀ (n : Nat) (ws : List W), ws.length = n → P ws
  | 0, ws, h => by rw [List.length_eq_zero_iff.mp h]; exact h0
  | n + 1, ws, h => by
    have hn : ws ≠ [] := fun z => by rw [z] at h; cases h
    rw [← List.dropLast_concat_getLast hn]
    exact h1 _ _ (snoc_ind h0 h1 n _ (by rw [List.length_dropLast, h]; rfl))
def put (wide : Int) (rows : List W) (w : W) : List W :=
  match rows.getLast? with
  | some r => if (r.length : Int) + 1 + w.length ≤ wide then rows.dropLast ++ [r ++ 32 :: w] else rows ++ [w]
  | none => [w]
def taken (wide : Int) (ws : List W) : List W := ws.foldl (put wide) []
theorem taken_snoc (wide : Int) (ws : List W) (w : W) : taken wide (ws ++ [w]) = put wide (taken wide ws) w := by
  unfold taken
  rw [List.foldl_append]
  rfl
theorem last_split {rows : List W} {r : W} (h : rows.getLast? = some r) : rows = rows.dropLast ++ [r] := by
  have hn : rows ≠ [] := fun z => by rw [z] at h; cases h
  rw [List.getLast?_eq_some_getLast hn] at h
  rw [← Option.some.inj h]
  exact (List.dropLast_concat_getLast hn).symm
theorem put_len_le (wide : Int) (rows : List W) (w : W) : (put wide rows w).length ≤ rows.length + 1 := by
  unfold put
  split
  · rename_i r e
    split
    · have := last_split e
      have e2 : rows.length = rows.dropLast.length + 1 := by
        conv => lhs; rw [this, List.length_append]
        rfl
      rw [List.length_append, List.length_singleton]
      omega
    · simp
  · simp
theorem taken_len_le (wide : Int) (ws : List W) : (taken wide ws).length ≤ ws.length :=
  snoc_ind (P := fun ws => (taken wide ws).length ≤ ws.length) (Nat.le_refl _) (fun ws w ih => by
    rw [taken_snoc, List.length_append, List.length_singleton]
    exact Nat.le_trans (put_len_le _ _ _) (Nat.succ_le_succ ih)) _ ws rfl
def pos (ws : List W) (k : Nat) : Int := ((ws.take k).map (fun w => (w.length : Int) + 1)).sum
theorem pos_zero (ws : List W) : pos ws 0 = 0 := rfl
theorem pos_succ {ws : List W} {k : Nat} {w : W} (h : ws[k]? = some w) : pos ws (k + 1) = pos ws k + w.length + 1 := by
  obtain ⟨hk, e⟩ := List.getElem?_eq_some_iff.mp h
  unfold pos
  rw [← List.take_append_getElem hk, List.map_append, List.sum_append, e]
  show _ + (((w.length : Int) + 1) + 0) = _
  omega
theorem pos_step (ws : List W) (k : Nat) : pos ws k ≤ pos ws (k + 1) := by
  by_cases h : k < ws.length
  · rw [pos_succ (List.getElem?_eq_getElem h)]
    omega
  · unfold pos
    rw [List.take_of_length_le (by omega), List.take_of_length_le (by omega)]
    exact Int.le_refl _
theorem pos_mono (ws : List W) {i : Nat} : ∀ {j : Nat}, i ≤ j → pos ws i ≤ pos ws j
  | 0, h => by rw [Nat.le_zero.mp h]; exact Int.le_refl _
  | j + 1, h => by
    rcases Nat.lt_or_ge i (j + 1) with z | z
    · exact Int.le_trans (pos_mono ws (Nat.le_of_lt_succ z)) (pos_step ws j)
    · rw [Nat.le_antisymm h z]
      exact Int.le_refl _
def gr (ws : List W) (wide : Int) : Nat → Nat × Nat
  | 0 => (0, 0)
  | k + 1 => if (gr ws wide k).1 ≠ 0 ∧ pos ws (k + 1) - pos ws (gr ws wide k).2 - 1 ≤ wide then gr ws wide k else ((gr ws wide k).1 + 1, k)
section
variable {ws : List W} {wide : Int}
theorem gr_yes {k : Nat} (h : (gr ws wide k).1 ≠ 0 ∧ pos ws (k + 1) - pos ws (gr ws wide k).2 - 1 ≤ wide) : gr ws wide (k + 1) = gr ws wide k := by
  conv => lhs; unfold gr
  rw [if_pos h]
theorem gr_no {k : Nat} (h : ¬ ((gr ws wide k).1 ≠ 0 ∧ pos ws (k + 1) - pos ws (gr ws wide k).2 - 1 ≤ wide)) : gr ws wide (k + 1) = ((gr ws wide k).1 + 1, k) := by
  conv => lhs; unfold gr
  rw [if_neg h]
theorem gr_pos : ∀ {k : Nat}, 0 < k → 0 < (gr ws wide k).1
  | k + 1, _ => by
    by_cases h : (gr ws wide k).1 ≠ 0 ∧ pos ws (k + 1) - pos ws (gr ws wide k).2 - 1 ≤ wide
    · rw [gr_yes h]; omega
    · rw [gr_no h]; exact Nat.succ_pos _
theorem gr_step (k : Nat) : (gr ws wide k).1 ≤ (gr ws wide (k + 1)).1 ∧ (gr ws wide (k + 1)).1 ≤ (gr ws wide k).1 + 1 := by
  by_cases h : (gr ws wide k).1 ≠ 0 ∧ pos ws (k + 1) - pos ws (gr ws wide k).2 - 1 ≤ wide
  · rw [gr_yes h]; omega
  · rw [gr_no h]; exact ⟨Nat.le_succ _, Nat.le_refl _⟩
theorem gr_le : ∀ k : Nat, (gr ws wide k).1 ≤ k
  | 0 => Nat.le_refl _
  | k + 1 => Nat.le_trans (gr_step k).2 (Nat.succ_le_succ (gr_le k))
theorem gr_start : ∀ {k : Nat}, 0 < k → (gr ws wide k).2 < k ∧ (gr ws wide k).1 = (gr ws wide (gr ws wide k).2).1 + 1
  | k + 1, _ => by
    by_cases h : (gr ws wide k).1 ≠ 0 ∧ pos ws (k + 1) - pos ws (gr ws wide k).2 - 1 ≤ wide
    · rw [gr_yes h]
      have hk : 0 < k := Nat.pos_of_ne_zero fun z => by
        rw [z] at h
        exact h.1 rfl
      have := gr_start hk
      exact ⟨Nat.lt_succ_of_lt this.1, this.2⟩
    · rw [gr_no h]
      exact ⟨Nat.lt_succ_self _, rfl⟩
theorem gr_fit (hw : ∀ w ∈ ws, (w.length : Int) ≤ wide) : ∀ {k : Nat}, 0 < k → k ≤ ws.length → pos ws k - pos ws (gr ws wide k).2 - 1 ≤ wide
  | k + 1, _, hk => by
    by_cases h : (gr ws wide k).1 ≠ 0 ∧ pos ws (k + 1) - pos ws (gr ws wide k).2 - 1 ≤ wide
    · rw [gr_yes h]
      exact h.2
    · rw [gr_no h]
      have := pos_succ (List.getElem?_eq_getElem (show k < ws.length by omega))
      have := hw _ (List.getElem_mem (show k < ws.length by omega))
      dsimp only
      omega
theorem gr_up_aux {f k : Nat} (hf : pos ws k - pos ws f - 1 ≤ wide) : ∀ j, f ≤ j → j ≤ k → (gr ws wide j).1 = (gr ws wide f).1 ∨ ((gr ws wide j).1 = (gr ws wide f).1 + 1 ∧ f ≤ (gr ws wide j).2)
  | 0, h, _ => by rw [Nat.le_zero.mp h]; exact .inl rfl
  | j + 1, h, hk => by
    rcases Nat.lt_or_ge j f with z | z
    · rw [show f = j + 1 by omega]
      exact .inl rfl
    · by_cases c : (gr ws wide j).1 ≠ 0 ∧ pos ws (j + 1) - pos ws (gr ws wide j).2 - 1 ≤ wide
      · rw [gr_yes c]
        exact gr_up_aux hf j z (Nat.le_of_succ_le hk)
      · rcases gr_up_aux hf j z (Nat.le_of_succ_le hk) with a | ⟨a, b⟩
        · rw [gr_no c]
          exact .inr ⟨by rw [a], z⟩
        · exfalso
          apply c
          refine ⟨by omega, ?_⟩
          have := pos_mono ws hk
          have := pos_mono ws b
          omega
theorem gr_up {f k : Nat} (hk : f ≤ k) (hf : pos ws k - pos ws f - 1 ≤ wide) : (gr ws wide k).1 ≤ (gr ws wide f).1 + 1 := by
  rcases gr_up_aux hf k hk (Nat.le_refl _) with a | ⟨a, _⟩ <;> omega
theorem taken_gr : ∀ {k : Nat}, k ≤ ws.length → (taken wide (ws.take k)).length = (gr ws wide k).1 ∧ (0 < k → ∃ r, (taken wide (ws.take k)).getLast? = some r ∧ (r.length : Int) = pos ws k - pos ws (gr ws wide k).2 - 1)
  | 0, _ => ⟨rfl, fun h => absurd h (Nat.lt_irrefl _)⟩
  | k + 1, hk => by
    have hk' : k < ws.length := hk
    obtain ⟨l, g⟩ := taken_gr (k := k) (Nat.le_of_lt hk')
    have ps := pos_succ (List.getElem?_eq_getElem hk')
    rw [← List.take_append_getElem hk', taken_snoc]
    generalize ws[k] = w at ps
    by_cases h0 : k = 0
    · subst h0
      have e : gr ws wide 1 = (1, 0) := by
        rw [gr_no (fun z => z.1 rfl)]
        rfl
      rw [e]
      refine ⟨rfl, fun _ => ⟨w, rfl, ?_⟩⟩
      rw [pos_zero] at ps
      have ps : pos ws 1 = 0 + (w.length : Int) + 1 := ps
      show (w.length : Int) = pos ws 1 - 0 - 1
      omega
    · obtain ⟨r, er, lr⟩ := g (by omega)
      have sp := last_split er
      have n0 : (gr ws wide k).1 ≠ 0 := Nat.ne_of_gt (gr_pos (by omega))
      unfold put
      rw [er]
      dsimp only
      by_cases c : (r.length : Int) + 1 + w.length ≤ wide
      · rw [if_pos c, gr_yes ⟨n0, by omega⟩]
        refine ⟨?_, fun _ => ⟨r ++ 32 :: w, by simp, ?_⟩⟩
        · rw [← l]
          conv => rhs; rw [sp]
          simp
        · rw [List.length_append, List.length_cons]
          omega
      · rw [if_neg c, gr_no (fun z => c (by omega))]
        refine ⟨by rw [List.length_append, l]; rfl, fun _ => ⟨w, by simp, ?_⟩⟩
        dsimp only
        omega
end
end Lin
set_option Elab.async false
set_option linter.all false
set_option maxRecDepth 100000
namespace L2
open PySem PySem.Spec PyProof.Rows PySem.W
theorem txt_app (a b : List Nat) : txt a ++ txt b = txt (a ++ b) := by
  refine Str.ext' ?_
  rw [Str.cps_append]
  simp [txt]
def Its (l : List Nat) : It := ⟨fun i _ => i < l.length, fun i H x H' => H' = H ∧ ∃ c, l[i]? = some c ∧ x = .str (txt [c]), fun i _ => l.length ≤ i⟩
theorem turn_ascii {P : Program} {w : World} {K : PySem.W.Frag} {tg : Expr} (it : Addr) (l : List Nat) (t : Tok) : Turn P w K tg (Its l) [it] it (fun i h => h.IsStrIter it "str_ascii_iterator" (txt l) t i) where
  mem := by simp
  obj := fun i h st b hb => by
    have e : b = it := by simpa using hb
    subst e
    obtain ⟨o, e, c, d⟩ := st
    exact ⟨o, e, fun v z => by rw [d] at z; cases z⟩
  keep := fun i h h' st k => let ⟨o, ho, r⟩ := st; ⟨o, k it (by simp) o ho, r⟩
  item := by
    intro X hP hw hK hc i pins s σ H E I hf st hg
    subst hP hw hK
    obtain ⟨f0, f1, f2, f3, f4, f5⟩ := hf it (by simp)
    have hg : i < l.length := hg
    refine wpAny_pyNext_ascii_item st (c := l[i]) (by simp [txt, hg]) fun h' st' sb => ?_
    have I1 : Inv X pins σ H { s with heap := h', toks := s.toks + 1 } := I.turned (t' := s.toks + 1) (fun b o hb e => (sb.2 b hb).trans e) f0 f1 f3 f4 f5
    obtain ⟨o, e, c, d⟩ := id st'
    exact ⟨_, rfl, go_of (s := { s with heap := h', toks := s.toks + 1 }) e c d (by decide) ⟨.str (txt [l[i]]), H, I1, ⟨_, rfl⟩, ⟨rfl, l[i], List.getElem?_eq_getElem hg, rfl⟩, st', fun b hb => (hf b hb).1⟩⟩
  done := by
    intro X hP hw hK hc i pins s σ H E I hf st hg
    subst hP hw hK
    obtain ⟨f0, f1, f2, f3, f4, f5⟩ := hf it (by simp)
    have hg : l.length ≤ i := hg
    exact wpAny_pyNext_ascii_end (I.ok.hd hc) st (by simp [txt, hg]) fun h' eb => ⟨rfl, I.turned (t' := s.toks) (fun b o hb e => eb b o hb e) f0 f1 f3 f4 f5⟩
  self := fun _ _ _ _ _ st h => wpAny_pyIter_striter_ascii st h
section
variable {X : Cx} {tg : Expr}
def iTxt (tl : TE) : TI := fun σ H R => tl σ H fun x H1 => ∃ l : List Nat, x = .str (txt l) ∧ (∀ c ∈ l, c < 128) ∧ R (Its l) H1
theorem pi_txt {l : Expr} {tl : TE} (hl : PE X l tl) : PI X tg l (iTxt tl) := by
  intro pins s σ H R I h
  refine thn (hl pins s σ H _ I h) fun v s1 ⟨x, H1, I1, r1, q1⟩ => ?_
  obtain ⟨l, e, ha, q⟩ := q1
  subst e
  obtain ⟨t, rfl⟩ := r1
  refine wpAny_pyIter_ascii (by simpa [txt] using ha) ?_
  refine ⟨s1.heap.objs.size, [s1.heap.objs.size], _, _, H1, rfl, I1.kept (t' := s1.toks) fun b o e => Heap.get?_push_of_some _ e, turn_ascii _ l t, ⟨_, Heap.get?_push_size _ rfl, rfl, rfl⟩, fun b hb => ?_, q⟩
  have e : b = s1.heap.objs.size := by simpa using hb
  subst e
  exact I1.fpOk (Nat.le_refl _) (I1.hok.fresh (Nat.le_refl _))
theorem op_le_str : OpR X (compareOp .LtE) (fun x y H Q => ∃ i j, x = .str i ∧ y = .str j ∧ Q (.bl (!decide (j.cps.toList < i.cps.toList))) H) := by
  intro pins s σ H x y v u Q I rx ry h
  obtain ⟨i, j, rfl, rfl, q⟩ := h
  obtain ⟨t, rfl⟩ := rx
  obtain ⟨t', rfl⟩ := ry
  exact PySem.P.le_str (fin_bl I q rfl)
theorem join_glue : ∀ (ls : List (List Nat)), Str.join (txt [32]) (ls.map txt) = txt (Lin.glue ls)
  | [] => rfl
  | [a] => rfl
  | a :: b :: r => by
    have ih := join_glue (b :: r)
    show txt a ++ txt [32] ++ Str.join (txt [32]) ((b :: r).map txt) = _
    rw [ih, txt_app, txt_app]
    simp [Lin.glue]
end
section
variable {g : TG} {tc : TT} {te : TE} {σ0 : St} {H0 : Hp} {R : List V → Hp → Prop} {l : List Nat}
theorem cmp_txt (Pv : Nat → List V → St → Hp → Prop) (h0 : Pv 0 [] σ0 H0) (hz : ∀ i ys σ H, i ≤ l.length → Pv i ys σ H → ys.length ≤ sizeLine) (hst : ∀ ys σ H, Pv l.length ys σ H → R ys H)
    (hgo : ∀ i c ys σ H, l[i]? = some c → Pv i ys σ H → g (.str (txt [c])) σ H fun σ2 H3 => tc σ2 H3 fun b H4 => if b = true then te σ2 H4 fun y H5 => Pv (i + 1) (ys ++ [y]) σ2 H5 else Pv (i + 1) ys σ2 H4) :
    ∃ W : Nat → Nat → List V → St → Hp → Prop, (∃ m, W 0 m [] σ0 H0) ∧ ∀ i m ys σ' H', W i m ys σ' H' →
      ((Its l).stop i H' ∧ ys.length ≤ sizeLine ∧ R ys H') ∨
      ((Its l).go i H' ∧ ys.length ≤ sizeLine ∧ ∃ N : List V → St → Hp → Prop, (∀ ys' σ2 H2, N ys' σ2 H2 → ∃ m', m' < m ∧ W (i + 1) m' ys' σ2 H2) ∧
        ∀ x H2, (Its l).yld i H' x H2 → g x σ' H2 fun σ2 H3 => tc σ2 H3 fun b H4 => if b = true then te σ2 H4 fun y H5 => N (ys ++ [y]) σ2 H5 else N ys σ2 H4) :=
  cmp_gen (n := l.length) Pv h0 hz (fun ys σ H p => ⟨Nat.le_refl _, hst ys σ H p⟩) fun i ys σ H hi p => ⟨hi, fun x H2 y => by
    obtain ⟨e, c, hc, ex⟩ := y
    subst e ex
    exact hgo i c ys σ _ hc p⟩
end
section
variable {σ : St} {H : Hp} {ta tb : TE}
theorem evl_lenS {w : List Nat} (a : Evl ta σ H (.str (txt w))) (h : w.length ≤ 1000000) : Evl (tCB (fun xs H Q => ∃ z : Str, xs = [.str z] ∧ z.length ≤ sizeLine ∧ Q (.int z.length) H) (tCons ta tNil)) σ H (.int (w.length : Nat)) := fun Q q =>
  a _ ⟨txt w, rfl, by rw [txt_len]; exact Nat.le_trans h (by decide), by rw [txt_len]; exact q⟩
theorem evl_addS {u w : List Nat} (a : Evl ta σ H (.str (txt u))) (b : Evl tb σ H (.str (txt w))) (h : u.length + w.length ≤ 1000000) : Evl (tOp (fun x y H Q => ∃ i j, x = .str i ∧ y = .str j ∧ i.length + j.length ≤ sizeLine ∧ Q (.str (i ++ j)) H) ta tb) σ H (.str (txt (u ++ w))) := fun Q q =>
  a _ (b _ ⟨txt u, txt w, rfl, rfl, by rw [txt_len, txt_len]; exact Nat.le_trans h (by decide), by rw [txt_app]; exact q⟩)
theorem tst_andL {t u : TT} {p q : Prop} [Decidable p] [Decidable q] (a : Tst t σ H p) (b : p → Tst u σ H q) : Tst (tAnd t u) σ H (p ∧ q) := fun Q z => a _ (by
  by_cases h : p
  · rw [decide_eq_true h, if_pos rfl]
    refine b h _ ?_
    have e : decide (p ∧ q) = decide q := by rw [decide_eq_decide]; exact ⟨fun z => z.2, fun z => ⟨h, z⟩⟩
    rw [← e]; exact z
  · rw [decide_eq_false h, if_neg Bool.false_ne_true]
    have e : decide (p ∧ q) = false := decide_eq_false fun z => h z.1
    rw [← e]; exact z)
theorem while_n {c : TT} {tb : TS} {D : Ends} (Pv : Nat → St → Hp → Prop) (m0 : Nat) (h0 : Pv m0 σ H)
    (hs : ∀ m σ H, Pv m σ H → ∃ (p : Prop) (_ : Decidable p), Tst c σ H p ∧ (p → tb { D with nx := fun σ' H' => ∃ m', m' < m ∧ Pv m' σ' H', ct := fun σ' H' => ∃ m', m' < m ∧ Pv m' σ' H', bk := D.nx } σ H) ∧ (¬ p → D.nx σ H)) : tWhile c tb D σ H := by
  refine ⟨Pv, ⟨m0, h0⟩, fun m σ H p => ?_⟩
  obtain ⟨q, dq, t, h1, h2⟩ := hs m σ H p
  refine t _ ?_
  by_cases z : q
  · rw [decide_eq_true z, if_pos rfl]
    exact ⟨_, fun _ _ y => y, h1 z⟩
  · rw [decide_eq_false z, if_neg Bool.false_ne_true]
    exact h2 z
theorem seq_key {t u : TS} {D : Ends} (R : St → Hp → Prop) (h3 : ∀ σ H, R σ H → u D σ H) (h : (∀ σ H, R σ H → u D σ H) → t { D with nx := u D } σ H) : tSeq t u D σ H := h h3
theorem run_gname {i : Nat} {v : V} {Q : St → Hp → Prop} (h : Q (σ.set i (some v)) H) : gName i v σ H Q := h
theorem seq_lst {t : TA} {i : Nat} {u : TS} {D : Ends} (h : t σ H fun xs H1 => xs.length ≤ sizeLine ∧ ∀ p, H1 p = none → u D (σ.set i (some (.ref p))) (upd H1 p (.lst xs))) : tSeq (tAsg (tLst t) (gName i)) u D σ H := h
end
end L2
set_option Elab.async false
set_option linter.all false
set_option maxRecDepth 100000
namespace L2
open PySem PySem.Spec PyProof.Rows PySem.W
section
variable {P : Program} {w : World} {K : PySem.W.Frag} {mg : Str → Option Value} {base : Heap} {N : List Str} {qual : Str} {scope : Scope} {f : Addr} {cd : Value} {A : Around} {outer : List Env} {s₀ : Shared} {H₀ : Hp} {E : XK}
theorem passEE : Passes (CXE P w) (cxOf (CXE P w) P w K mg base N qual scope f cd A outer s₀ H₀ E) E := by
  intro pins σ H s e s' I q
  obtain ⟨ea, T, C, H', rfl, os, bare, un, hok, fly, q⟩ := q
  have I2 : Inv (cxOf (CXE P w) P w K mg base N qual scope f cd A outer s₀ H₀ E) pins σ H' s' := I.call' (ch := []) os un hok bare (fun b z => nomatch z)
  obtain ⟨oe, vs, a0, oT, ts, e1, e2, e3, e4, e5, e6, e7, e8⟩ := fly.ob
  have no0 : ∀ b, s.heap.get? b = none → s₀.heap.get? b = none := fun b z => by
    cases y : s₀.heap.get? b with
    | none => rfl
    | some o =>
      obtain ⟨o', z'⟩ := I.base.there b o y (fun m => nomatch m)
      rw [z] at z'
      cases z'
  have no2 : ∀ b, s'.heap.get? b = none → s₀.heap.get? b = none := fun b z => by
    cases y : s₀.heap.get? b with
    | none => rfl
    | some o =>
      obtain ⟨o', z'⟩ := I2.base.there b o y (fun m => nomatch m)
      rw [z] at z'
      cases z'
  have ff : s'.heap.FunFrames (hideAll s'.heap (ea :: T :: frs (envOfC qual scope s₀.heap.objs.size f cd :: outer))) (envOfC qual scope s₀.heap.objs.size f cd :: outer) := I2.hid _ fun b hb => List.mem_cons_of_mem _ (List.mem_cons_of_mem _ hb)
  have fl : Heap.FlyingW (hideAll s'.heap (ea :: T :: frs (envOfC qual scope s₀.heap.objs.size f cd :: outer))) (envOfC qual scope s₀.heap.objs.size f cd :: outer) ea (.ref C) a0 s'.heap :=
    ⟨fun b o z => of_hideAll _ z, hideAll_none _ List.mem_cons_self, ff, oe, vs, T, oT, ts, e1, ⟨e2, e4⟩, e3, e5, hideAll_none _ (List.mem_cons_of_mem _ List.mem_cons_self), fly.ne, e6, e7, e8⟩
  show wpAny _ _ (leaving _ _) _ _ _
  refine wpAny_leaves_onW I2.ok.frames rfl fl fun h2 fl2 up => ?_
  have inB : ∀ b o, b ≠ ea → b ≠ T → b ∉ frs (envOfC qual scope s₀.heap.objs.size f cd :: outer) → s'.heap.get? b = some o → h2.get? b = some o := fun b o n1 n2 nb z => fl2.1 b o (hideAll_get _ z (by
    intro m
    rcases List.mem_cons.mp m with m | m
    · exact n1 m
    · rcases List.mem_cons.mp m with m | m
      · exact n2 m
      · exact nb m))
  have upS : ∀ b o, b ∈ frs (envOfC qual scope s₀.heap.objs.size f cd :: outer) → s'.heap.get? b = some o → ∃ sl, h2.get? b = some { o with slots := sl } := fun b o nb z => by
    obtain ⟨_, o', z', hd⟩ := I2.stack.mem nb
    rw [z] at z'
    cases z'
    exact up b o z hd
  have notL : ∀ b o, s₀.heap.get? b = some o → b ∉ frs outer → b ∉ frs (envOfC qual scope s₀.heap.objs.size f cd :: outer) := fun b o z nb m => by
    rcases List.mem_cons.mp (I2.stkSub b m) with z' | z'
    · have := Heap.lt_size z
      have z' : b = s₀.heap.objs.size := z'
      rw [z'] at this
      exact Nat.lt_irrefl _ this
    · exact nb z'
  have neE : ∀ b o, s₀.heap.get? b = some o → b ≠ ea ∧ b ≠ T := fun b o z => ⟨(fun y => by rw [y, no0 _ fly.ne0] at z; cases z), (fun y => by rw [y, no0 _ fly.nT0] at z; cases z)⟩
  obtain ⟨_, _, _, oe', vs', T', oT', ts', a1, ⟨a2, a3⟩, a4, a5, a6, a7, a8, a9, a10⟩ := fl2
  have hT' : T' = T ∨ s'.heap.get? T' = none := by
    by_cases hTT : T' = T
    · exact .inl hTT
    · right
      cases z : s'.heap.get? T' with
      | none => rfl
      | some o =>
        by_cases hb : T' ∈ frs (envOfC qual scope s₀.heap.objs.size f cd :: outer)
        · obtain ⟨_, o', z', hd⟩ := I2.stack.mem hb
          obtain ⟨sl, z2⟩ := upS T' o hb z
          rw [z] at z'
          cases z'
          rw [a8] at z2
          cases z2
          exact absurd a9 (hd ts')
        · rw [hideAll_get _ z (by
            intro m
            rcases List.mem_cons.mp m with m | m
            · exact a7 m
            · rcases List.mem_cons.mp m with m | m
              · exact hTT m
              · exact hb m)] at a6
          cases a6
  have fT' : H' T' = none := by
    rcases hT' with e | e
    · rw [e]; exact fly.fT
    · exact I2.none_of e
  have nT' : s₀.heap.get? T' = none := by
    rcases hT' with e | e
    · rw [e]; exact no0 _ fly.nT0
    · exact no2 _ e
  refine ⟨ea, T', C, H', rfl, I2.os, I2.bare, ⟨fun b o z n nb _ => ?_, fun b o z n nb _ => ?_, fun b o z n _ => I2.base.free b o z n (fun m => nomatch m), fun b o z _ => ?_, I2.base.tups, I2.base.frzs, I2.base.tbls⟩, fun a o z => ?_,
    ⟨⟨oe', vs', a0, oT', ts', a1, a2, a4, a3, a5, a8, a9, a10⟩, a7, fly.fe, fT', no0 _ fly.ne0, nT'⟩, q⟩
  · exact inB b o (neE b o z).1 (neE b o z).2 (notL b o z nb) (I2.base.keep b o z n nb (fun m => nomatch m))
  · obtain ⟨sl, z1⟩ := I2.base.slot b o z n nb (fun m => nomatch m)
    obtain ⟨sl', z2⟩ := upS b _ (by
      show b ∈ frs _
      unfold frs
      rw [List.filterMap_cons]
      exact List.mem_cons_of_mem _ nb) z1
    exact ⟨sl', z2⟩
  · obtain ⟨o', z'⟩ := I2.base.there b o z (fun m => nomatch m)
    by_cases hb : b ∈ frs (envOfC qual scope s₀.heap.objs.size f cd :: outer)
    · obtain ⟨sl, z2⟩ := upS b o' hb z'
      exact ⟨_, z2⟩
    · exact ⟨o', inB b o' (neE b o z).1 (neE b o z).2 hb z'⟩
  · refine (I2.hok a o z).stay (fun b u hb r => ?_) (fun _ y => y) fun _ _ y => y
    have hbH : ∃ x, H' b = some x := by
      rcases hb with rfl | hb
      · exact ⟨_, z⟩
      · exact ⟨_, hb⟩
    obtain ⟨x, hx⟩ := hbH
    refine inB b u (fun m => ?_) (fun m => ?_) (fun m => ?_) r
    · rw [m, fly.fe] at hx; cases hx
    · rw [m, fly.fT] at hx; cases hx
    · have := I2.stkFree b m
      rw [hx] at this
      cases this
end
end L2
set_option Elab.async false
set_option linter.all false
set_option maxRecDepth 100000
namespace L2
open PySem PySem.Spec PyProof.Rows
theorem Inv.turnedL {X : Cx} {pins : List (Addr × Obj)} {σ : St} {H : Hp} {s : Shared} {h' : Heap} {t' : Nat} {ch : List Addr} (I : Inv X pins σ H s) (k : ∀ b o, b ∉ ch → s.heap.get? b = some o → h'.get? b = some o) (hf : ∀ b ∈ ch, FpOk X pins H b) :
    Inv X pins σ H { s with heap := h', toks := t' } := by
  have nit : ∀ b u, H b = some u → b ∉ ch := fun b u e m => by rw [(hf b m).1] at e; cases e
  refine I.step (g' := s.gens) (d' := s.drawn) (ch := ch) (fun b hb => ?_) (fun b o _ _ m e _ => k b o m e) (fun b o _ _ m e _ => ⟨o.slots, k b o m e⟩) (fun _ _ _ _ n => n) (fun b o m e => ⟨o, k b o m e⟩) (fun _ _ e => e) (fun _ _ _ e => e)
    (fun b ps e => ⟨#[], by rw [e]; simp⟩) (fun m hm => ?_) (fun b u e => ?_) I.bare
  · obtain ⟨a0, a1, a2, a3, a4, a5⟩ := hf b hb
    exact ⟨a3, a1, a4, a5⟩
  · obtain ⟨o, es, ep, ho, r⟩ := hm
    exact ⟨o, es, ep, k _ o (fun m => (hf _ m).2.1 rfl) ho, r⟩
  · refine (I.hok b u e).stay (fun c v hc q => k c v (fun m => ?_) q) (fun _ q => q) fun _ _ q => q
    rcases hc with z | z
    · rw [z] at m
      exact nit b u e m
    · exact nit c _ z m
theorem ne_cls {h : Heap} {a c : Addr} {its : Array Value} {o : Obj} (hl : h.IsList a its) (hc : h.get? c = some o) (hn : o.cls ≠ .type "list") : a ≠ c := fun z => by
  obtain ⟨o', g1, g2, _⟩ := hl
  rw [z, hc] at g1
  cases g1
  exact hn g2
def ItZ (K : PySem.W.Frag) (a b : Addr) : It :=
  ⟨fun i H => ∃ xs ys x y, SqL K H a xs ∧ SqL K H b ys ∧ xs[i]? = some x ∧ ys[i]? = some y,
   fun i H x H' => ∃ p u v, H p = none ∧ x = .ref p ∧ H' = upd H p (.tup [u, v]) ∧ (∀ xs, SqL K H a xs → xs[i]? = some u) ∧ ∀ ys, SqL K H b ys → ys[i]? = some v,
   fun i H => ∃ xs ys, SqL K H a xs ∧ SqL K H b ys ∧ (xs.length ≤ i ∨ ys.length ≤ i)⟩
structure Dst (z TI TO i1 i2 : Addr) : Prop where
  TIz : TI ≠ z
  TOz : TO ≠ z
  i1z : i1 ≠ z
  i2z : i2 ≠ z
  TITO : TI ≠ TO
  TIi1 : TI ≠ i1
  TIi2 : TI ≠ i2
  TOi1 : TO ≠ i1
  TOi2 : TO ≠ i2
  i12 : i1 ≠ i2
theorem dst_of (n : Nat) : Dst (n + 4) (n + 2) (n + 3) n (n + 1) := by
  have ne : ∀ {i j : Nat}, i ≠ j → (show Nat from n + i) ≠ (show Nat from n + j) := fun h z => h (Nat.add_left_cancel z)
  exact ⟨ne (i := 2) (j := 4) (by decide), ne (i := 3) (j := 4) (by decide), ne (i := 0) (j := 4) (by decide), ne (i := 1) (j := 4) (by decide), ne (i := 2) (j := 3) (by decide), ne (i := 2) (j := 0) (by decide), ne (i := 2) (j := 1) (by decide), ne (i := 3) (j := 0) (by decide), ne (i := 3) (j := 1) (by decide), ne (i := 0) (j := 1) (by decide)⟩
theorem le_of_new {n c : Nat} (h : c = n + 4 ∨ c = n + 2 ∨ c = n + 3 ∨ c = n ∨ c = n + 1) : n ≤ c := by omega
theorem zip_apart {h : Heap} {z TI TO i1 i2 a b : Addr} {xs ys : Array Value} {k1 k2 : Nat} {f0 v u : Value} (D : Dst z TI TO i1 i2) (hz : IsZip h z TI TO f0) (hTO : IsPair h TO v u) (h1 : h.IsListIter i1 a k1) (h2 : h.IsListIter i2 b k2) (l1 : h.IsList a xs) (l2 : h.IsList b ys) :
    ZipApart z TI TO i1 i2 a b := by
  obtain ⟨o1, e1, c1, _⟩ := h1
  obtain ⟨o2, e2, c2, _⟩ := h2
  have n1 : o1.cls ≠ .type "list" := by rw [c1]; decide
  have n2 : o2.cls ≠ .type "list" := by rw [c2]; decide
  have nz : Value.type "zip" ≠ .type "list" := by decide
  have nt : Value.type "tuple" ≠ .type "list" := by decide
  exact ⟨D.TIz, D.TOz, D.i1z, D.i2z, D.TITO, D.TIi1, D.TIi2, D.TOi1, D.TOi2, D.i12, ne_cls l1 hz nz, ne_cls l1 hTO nt, ne_cls l1 e1 n1, ne_cls l1 e2 n2, ne_cls l2 hz nz, ne_cls l2 hTO nt, ne_cls l2 e1 n1, ne_cls l2 e2 n2⟩
theorem turn_zip {P : Program} {w : World} {K : PySem.W.Frag} {elts : List Expr} {kx : Nat} {px : Pos} (a b z TI TO i1 i2 : Addr) (D : Dst z TI TO i1 i2) :
    Turn P w K (.Tuple elts kx px) (ItZ K a b) [z, TI, TO, i1, i2] z (fun i h => IsZip h z TI TO .none ∧ IsPair h TI (.ref i1) (.ref i2) ∧ (∃ v u, IsPair h TO v u) ∧ h.IsListIter i1 a i ∧ h.IsListIter i2 b i) where
  mem := by simp
  obj := fun i h st c hc => by
    obtain ⟨hz, hTI, ⟨v, u, hTO⟩, ⟨o1, e1, c1, d1⟩, ⟨o2, e2, c2, d2⟩⟩ := st
    have hc : c = z ∨ c = TI ∨ c = TO ∨ c = i1 ∨ c = i2 := by simpa using hc
    rcases hc with rfl | rfl | rfl | rfl | rfl
    · exact ⟨_, hz, fun v y => by have y' : Data.fields _ = Data.cell v := y; cases y'⟩
    · exact ⟨_, hTI, fun v y => by have y' : Data.seq _ = Data.cell v := y; cases y'⟩
    · exact ⟨_, hTO, fun v y => by have y' : Data.seq _ = Data.cell v := y; cases y'⟩
    · exact ⟨o1, e1, fun v y => by rw [d1] at y; cases y⟩
    · exact ⟨o2, e2, fun v y => by rw [d2] at y; cases y⟩
  keep := fun i h h' st k => by
    obtain ⟨hz, hTI, ⟨v, u, hTO⟩, h1, h2⟩ := st
    exact ⟨k z (by simp) _ hz, k TI (by simp) _ hTI, ⟨v, u, k TO (by simp) _ hTO⟩, h1.at fun o q => k i1 (by simp) o q, h2.at fun o q => k i2 (by simp) o q⟩
  item := by
    intro X hP hw hK hc i pins s σ H E I hf st hg
    subst hP hw hK
    obtain ⟨hz, hTI, ⟨v0, u0, hTO⟩, h1, h2⟩ := st
    obtain ⟨xs, ys, x, y, hq1, hq2, hx, hy⟩ := hg
    obtain ⟨its, rv, tp, hz1⟩ := I.list hq1
    obtain ⟨jts, rw', tq, hz2⟩ := I.list hq2
    obtain ⟨u, hu, ru⟩ := rv.get hx
    obtain ⟨v, hv, rv'⟩ := rw'.get hy
    have Z := zip_apart D hz hTO h1 h2 tp.isList tq.isList
    refine wpAny_pyNext_zip_item Z hz hTI hTO h1 h2 tp.isList tq.isList (x := u) (y := v) (by simpa using hu) (by simpa using hv) fun h' a1 a2 a3 a4 a5 a6 hk => ?_
    refine ⟨_, rfl, wpAny_letOwnedTupleGo_zip a1 fun h'' hz'' hs => ?_⟩
    have lt : ∀ {c o}, s.heap.get? c = some o → s.heap.objs.size ≠ c := fun e => Nat.ne_of_gt (Heap.lt_size e)
    have ne1 := lt hz
    have k2 : ∀ c o, c ∉ [z, TO, i1, i2] → s.heap.get? c = some o → h''.get? c = some o := fun c o m q => by
      have m : c ≠ z ∧ c ≠ TO ∧ c ≠ i1 ∧ c ≠ i2 := by simpa using m
      exact (hs.2 c m.1).trans (hk c o m.1 m.2.1 m.2.2.1 m.2.2.2 q)
    have I1 : Inv X pins σ H { s with heap := h'', toks := s.toks } := I.turnedL (t' := s.toks) k2 fun c m => hf c (by
      have m : c = z ∨ c = TO ∨ c = i1 ∨ c = i2 := by simpa using m
      rcases m with rfl | rfl | rfl | rfl <;> simp)
    have hn : H s.heap.objs.size = none := I.hok.fresh (Nat.le_refl _)
    have FP := I.fpOk (b := s.heap.objs.size) (Nat.le_refl _) hn
    have hT2 : h''.get? s.heap.objs.size = some { cls := .type "tuple", data := .seq #[u, v] } := (hs.2 _ ne1).trans a5
    have I2 := I1.track (p := s.heap.objs.size) (o := .tup [x, y]) hn (Heap.get?_none_of_le I.sz) FP.2.1 FP.2.2.2.2.1 FP.2.2.2.2.2
      ⟨by show 2 ≤ sizeLine; decide, [u, v], .cons ru (.cons rv' .nil), ⟨_, hT2, rfl, _, rfl⟩⟩
    refine ⟨.ref s.heap.objs.size, _, I2, rfl, ⟨_, x, y, hn, rfl, rfl, fun zs hy' => ?_, fun zs hy' => ?_⟩, ⟨hz'', (hs.2 _ D.TIz).trans (hk _ _ D.TIz D.TITO D.TIi1 D.TIi2 hTI), ⟨_, _, (hs.2 _ D.TOz).trans a2⟩, a3.at fun o q => (hs.2 _ D.i1z).trans q, a4.at fun o q => (hs.2 _ D.i2z).trans q⟩, fun c hc => ?_⟩
    · rw [I.list_inj hy' hq1]; exact hx
    · rw [I.list_inj hy' hq2]; exact hy
    · have hb2 : c ≠ s.heap.objs.size := by
        have m : c = z ∨ c = TI ∨ c = TO ∨ c = i1 ∨ c = i2 := by simpa using hc
        rcases m with rfl | rfl | rfl | rfl | rfl
        · exact ne1.symm
        · exact (lt hTI).symm
        · exact (lt hTO).symm
        · obtain ⟨o, g, _⟩ := h1
          exact (lt g).symm
        · obtain ⟨o, g, _⟩ := h2
          exact (lt g).symm
      rw [upd_ne hb2]
      exact (hf c hc).1
  done := by
    intro X hP hw hK hc i pins s σ H E I hf st hg
    subst hP hw hK
    obtain ⟨hz, hTI, ⟨v0, u0, hTO⟩, h1, h2⟩ := st
    obtain ⟨xs, ys, hq1, hq2, hx⟩ := hg
    obtain ⟨its, rv, tp, hz1⟩ := I.list hq1
    obtain ⟨jts, rw', tq, hz2⟩ := I.list hq2
    have l1 := rv.length
    have l2 := rw'.length
    have Z := zip_apart D hz hTO h1 h2 tp.isList tq.isList
    refine wpAny_pyNext_zip_end (I.ok.hd hc) Z hz hTI hTO h1 h2 tp.isList tq.isList ?_ fun h' hk => ⟨rfl, I.turnedL (t' := s.toks) (ch := [z, TO, i1, i2]) (fun c o m q => ?_) fun c m => hf c ?_⟩
    · rcases hx with hx | hx
      · left; simp; omega
      · right; simp; omega
    · have m : c ≠ z ∧ c ≠ TO ∧ c ≠ i1 ∧ c ≠ i2 := by simpa using m
      exact hk c o m.1 m.2.1 m.2.2.1 m.2.2.2 q
    · have m : c = z ∨ c = TO ∨ c = i1 ∨ c = i2 := by simpa using m
      rcases m with rfl | rfl | rfl | rfl <;> simp
  self := fun _ _ _ _ _ st h => wpAny_pyIter_zip st.1 h
def iZip (K : PySem.W.Frag) (ta : TA) : TI := fun σ H R => ta σ H fun vs H1 => ∃ a b, vs = [.ref a, .ref b] ∧ (∃ xs, SqL K H1 a xs) ∧ (∃ ys, SqL K H1 b ys) ∧ R (ItZ K a b) H1
theorem pi_zip {X : Cx} {l r : Expr} {ta : TA} {elts : List Expr} {kx : Nat} {px p pos : Pos} (hg : Gl X "zip") (hm : X.mg "zip" = none) (ha : PA X [l, r] ta) (hs : starEach [l, r] X.env = [(false, eval l X.env), (false, eval r X.env)] := by rfl) (hs2 : starEach [r] X.env = [(false, eval r X.env)] := by rfl) :
    PI X (.Tuple elts kx px) (.Call (.Name "zip" p) [l, r] [] pos) (iZip X.K ta) := by
  intro pins s σ H R I h
  refine Call_ (ld_blt I hg hm boot_zip (PyProof.Rows.callWith_type1 (thn (ha pos pins s σ H _ I h) fun us s1 ⟨vs, H1, I1, r1, q1⟩ => ?_) (by rw [hs, hs2]) (by rw [hs2]; rfl)))
  obtain ⟨a, b, e, ⟨xs, hq1⟩, ⟨ys, hq2⟩, q⟩ := q1
  subst e
  cases r1 with
  | cons r rr =>
    cases rr with
    | cons r' rr =>
      cases rr
      cases r
      cases r'
      obtain ⟨its, rv, tp, hz1⟩ := I1.list hq1
      obtain ⟨jts, rw', tq, hz2⟩ := I1.list hq2
      refine call_zip_2 tp.isList tq.isList fun h' a1 a2 a3 a4 a5 a6 hk => ?_
      refine wpAny_pyIter_zip a1 ?_
      refine ⟨s1.heap.objs.size + 4, [s1.heap.objs.size + 4, s1.heap.objs.size + 2, s1.heap.objs.size + 3, s1.heap.objs.size, s1.heap.objs.size + 1], _, _, H1, rfl, I1.kept (t' := s1.toks) hk,
        turn_zip a b _ _ _ _ _ (dst_of _), ⟨a1, a2, ⟨_, _, a3⟩, a4, a5⟩, fun c hc => ?_, q⟩
      have m : c = s1.heap.objs.size + 4 ∨ c = s1.heap.objs.size + 2 ∨ c = s1.heap.objs.size + 3 ∨ c = s1.heap.objs.size ∨ c = s1.heap.objs.size + 1 := by simpa using hc
      have le : s1.heap.objs.size ≤ c := le_of_new m
      exact I1.fpOk le (I1.hok.fresh le)
section
variable {g : TG} {tc : TT} {te : TE} {σ0 : St} {H0 : Hp} {R : List V → Hp → Prop} {K : PySem.W.Frag} {a b : Addr} {xs ys : List V}
theorem cmp_zip (Pv : Nat → List V → St → Hp → Prop) (h0 : Pv 0 [] σ0 H0) (hz : ∀ i us σ H, i ≤ min xs.length ys.length → Pv i us σ H → us.length ≤ sizeLine ∧ SqL K H a xs ∧ SqL K H b ys) (hst : ∀ us σ H, Pv (min xs.length ys.length) us σ H → R us H)
    (hgo : ∀ i x y us σ H p, xs[i]? = some x → ys[i]? = some y → Pv i us σ H → H p = none → g (.ref p) σ (upd H p (.tup [x, y])) fun σ2 H3 => tc σ2 H3 fun c H4 => if c = true then te σ2 H4 fun u H5 => Pv (i + 1) (us ++ [u]) σ2 H5 else Pv (i + 1) us σ2 H4) :
    ∃ W : Nat → Nat → List V → St → Hp → Prop, (∃ m, W 0 m [] σ0 H0) ∧ ∀ i m us σ' H', W i m us σ' H' →
      ((ItZ K a b).stop i H' ∧ us.length ≤ sizeLine ∧ R us H') ∨
      ((ItZ K a b).go i H' ∧ us.length ≤ sizeLine ∧ ∃ N : List V → St → Hp → Prop, (∀ us' σ2 H2, N us' σ2 H2 → ∃ m', m' < m ∧ W (i + 1) m' us' σ2 H2) ∧
        ∀ x H2, (ItZ K a b).yld i H' x H2 → g x σ' H2 fun σ2 H3 => tc σ2 H3 fun c H4 => if c = true then te σ2 H4 fun u H5 => N (us ++ [u]) σ2 H5 else N us σ2 H4) :=
  cmp_gen (n := min xs.length ys.length) Pv h0 (fun i us σ H hi p => (hz i us σ H hi p).1)
    (fun us σ H p => ⟨⟨xs, ys, (hz _ us σ H (Nat.le_refl _) p).2.1, (hz _ us σ H (Nat.le_refl _) p).2.2, by omega⟩, hst us σ H p⟩)
    fun i us σ H hi p => ⟨⟨xs, ys, xs[i]'(by omega), ys[i]'(by omega), (hz i us σ H (Nat.le_of_lt hi) p).2.1, (hz i us σ H (Nat.le_of_lt hi) p).2.2, List.getElem?_eq_getElem _, List.getElem?_eq_getElem _⟩, fun x H2 y => by
      obtain ⟨q, u, v, hn, e, e2, y1, y2⟩ := y
      subst e e2
      have z := hz i us σ H (Nat.le_of_lt hi) p
      exact hgo i u v us σ H q (y1 xs z.2.1) (y2 ys z.2.2) p hn⟩
end
end L2
set_option Elab.async false
set_option linter.all false
set_option maxRecDepth 100000
namespace Lin
theorem app_inj : ∀ {a b : W} {x y : W}, 32 ∉ a → 32 ∉ b → a ++ 32 :: x = b ++ 32 :: y → a = b ∧ x = y
  | [], [], x, y, _, _, h => by cases h; exact ⟨rfl, rfl⟩
  | [], c :: b, x, y, _, hb, h => by
    cases h
    exact absurd List.mem_cons_self hb
  | c :: a, [], x, y, ha, _, h => by
    cases h
    exact absurd List.mem_cons_self ha
  | c :: a, d :: b, x, y, ha, hb, h => by
    have h : c :: (a ++ 32 :: x) = d :: (b ++ 32 :: y) := h
    injection h with h1 h2
    obtain ⟨e1, e2⟩ := app_inj (fun z => ha (List.mem_cons_of_mem _ z)) (fun z => hb (List.mem_cons_of_mem _ z)) h2
    exact ⟨by rw [h1, e1], e2⟩
theorem glue_inj : ∀ (A B : List W), A ≠ [] → B ≠ [] → (∀ a ∈ A, 32 ∉ a) → (∀ b ∈ B, 32 ∉ b) → glue A = glue B → A = B
  | [], _, h, _, _, _, _ => absurd rfl h
  | _, [], _, h, _, _, _ => absurd rfl h
  | [a], [b], _, _, _, _, h => by
    have h : a = b := h
    rw [h]
  | [a], b :: c :: r, _, _, ha, _, h => by
    have h : a = b ++ 32 :: glue (c :: r) := h
    exact absurd (by rw [h]; simp) (ha a List.mem_cons_self)
  | a :: c :: r, [b], _, _, _, hb, h => by
    have h : a ++ 32 :: glue (c :: r) = b := h
    exact absurd (by rw [← h]; simp) (hb b List.mem_cons_self)
  | a :: c :: r, b :: d :: t, _, _, ha, hb, h => by
    have h : a ++ 32 :: glue (c :: r) = b ++ 32 :: glue (d :: t) := h
    obtain ⟨e1, e2⟩ := app_inj (ha a List.mem_cons_self) (hb b List.mem_cons_self) h
    rw [e1, glue_inj (c :: r) (d :: t) (by simp) (by simp) (fun z hz => ha z (List.mem_cons_of_mem _ hz)) (fun z hz => hb z (List.mem_cons_of_mem _ hz)) e2]
end Lin
namespace L2
open PySem PySem.Spec PyProof.Rows PySem.Builtin PySem.Builtin.Str Lin
theorem txt_toList (p : Str) : txt p.cps.toList = p := by
  refine Str.ext' ?_
  simp [txt]
theorem split_glue {ws : List W} (hn : ws ≠ []) (hw : ∀ w ∈ ws, w ≠ [] ∧ 32 ∉ w) : Txt.split (txt (glue ws)) (txt [32]) = ws.map txt := by
  have j := StrLaws.join_split (txt (glue ws)) (txt [32])
  have fr := StrLaws.split_free (txt (glue ws)) 32
  have fr : ∀ p ∈ Txt.split (txt (glue ws)) (txt [32]), 32 ∉ p.cps.toList := fr
  generalize Txt.split (txt (glue ws)) (txt [32]) = ps at j fr
  have e : (ps.map fun p => p.cps.toList).map txt = ps := by
    rw [List.map_map]
    conv => rhs; rw [← List.map_id ps]
    exact List.map_congr_left fun p _ => txt_toList p
  rw [← e, join_glue] at j
  have j := txt_inj j
  have ne : (ps.map fun p => p.cps.toList) ≠ [] := fun z => by
    rw [z] at j
    match ws, hn, hw, j with
    | [a], _, hw, j => exact (hw a List.mem_cons_self).1 j.symm
    | a :: b :: r, _, hw, j =>
      have j : [] = a ++ 32 :: glue (b :: r) := j
      exact absurd j.symm (by simp)
  have q := glue_inj _ _ ne hn (fun a ha => by
    obtain ⟨p, hp, rfl⟩ := List.mem_map.mp ha
    exact fr p hp) (fun b hb => (hw b hb).2) j
  rw [← q, e]
theorem vals_strs : ∀ {l : List (Str × Tok)} {ws : List W}, l.map (·.1) = ws.map txt → Vals (ws.map fun w => V.str (txt w)) (strValues l)
  | [], [], _ => .nil
  | [], _ :: _, h => nomatch h
  | _ :: _, [], h => nomatch h
  | (x, t) :: l, w :: ws, h => by
    injection h with h1 h2
    have h1 : x = txt w := h1
    subst h1
    exact .cons ⟨t, rfl⟩ (vals_strs h2)
section
variable {X : Cx}
theorem mt_splitB : MtR X "str.split" (fun x vs H Q => ∃ ws : List W, x = .str (txt (glue ws)) ∧ vs = [.str " "] ∧ ws ≠ [] ∧ (∀ w ∈ ws, w ≠ [] ∧ 32 ∉ w) ∧ (glue ws).length ≤ 1000000 ∧ ws.length ≤ 1000000 ∧ ∀ l, H l = none → Q (.ref l) (upd H l (.lst (ws.map fun w => V.str (txt w))))) := by
  intro pins s σ H x xs v us Q I rx rxs h
  obtain ⟨ws, rfl, rfl, hn, hw, hl, hl2, q⟩ := h
  obtain ⟨t, rfl⟩ := rx
  obtain ⟨z, rfl, u, rfl⟩ := vals1 rxs
  have eb : (" " : Str) = txt [32] := by decide +kernel
  rw [eb]
  have hs := split_glue hn hw
  have hx : (txt (glue ws)).length ≤ 1000000 := by rw [txt_len]; exact hl
  have big : (1000002 : Nat) ≤ sizeLine := by decide
  generalize txt (glue ws) = x at hs hx
  have hy : ((txt [32]).length == 0) = false := by decide +kernel
  have fin : ∀ (l : List (Str × Tok)) (k : Nat), l.map (·.1) = Txt.split x (txt [32]) → EP X pins σ Q (.ref s.heap.objs.size) { s with heap := s.heap.push { cls := .type "list", data := .seq (strValues l).toArray }, toks := k } := fun l k e =>
    ⟨.ref s.heap.objs.size, _, I.laid (t' := k) (fun b u e => Heap.get?_push_of_some _ e) (Nat.le_refl _) (show ObjOk X.prog X.w _ _ _ (.lst (ws.map fun w => V.str (txt w))) from ⟨by rw [List.length_map]; omega, strValues l, _, vals_strs (e.trans hs), Heap.get?_push_size _ rfl⟩), rfl, q _ (I.hok.fresh (Nat.le_refl _))⟩
  have hnn : (partsBetween x (occurrences x (txt [32]) 0 x.length (x.length + 1)) (txt [32]).length).length ≤ sizeLine := by
    have e1 := StrLaws.occ_length_le x (txt [32]) 0 x.length (x.length + 1)
    rw [length_partsBetween]
    omega
  cases h1 : (decide (x.length < (txt [32]).length) || decide (strKind x < strKind (txt [32])))
  · cases hf : (occurrences x (txt [32]) 0 x.length (x.length + 1)).isEmpty
    · refine call_meets F.slot_str_split (typeIs_str _ _ _) F.entry_str_split (F.args_str_split_2 _ _) (meets_str_split_sep x (txt [32]) t u h1 hy hf (by omega) hnn) ?_
      show wants _ _ _ { s with toks := _, heap := s.heap.push { cls := .type "list", data := .seq (strsFrom s.toks (partsBetween x (occurrences x (txt [32]) 0 x.length (x.length + 1)) (txt [32]).length)).toArray } }
      rw [strsFrom_eq]
      exact fin (numbered s.toks _) _ ((numbered_texts _ _).trans ((if_neg (ne_true_of_eq_false h1)).trans (if_neg (ne_true_of_eq_false hf))).symm)
    · exact call_meets F.slot_str_split (typeIs_str _ _ _) F.entry_str_split (F.args_str_split_2 _ _) (meets_str_split_not_found x (txt [32]) t u h1 hy hf)
        (fin [(x, t)] s.toks ((if_neg (ne_true_of_eq_false h1)).trans (if_pos hf)).symm)
  · exact call_meets F.slot_str_split (typeIs_str _ _ _) F.entry_str_split (F.args_str_split_2 _ _) (meets_str_split_cannot_occur x (txt [32]) t u h1)
      (fin [(x, t)] s.toks (if_pos h1).symm)
end
end L2
set_option Elab.async false
set_option linter.all false
set_option maxRecDepth 100000
namespace L2
open PySem PySem.Spec PyProof.Rows
section
variable {X : Cx}
theorem call_sumG (hc : X.calm = true) : CallR X (.builtin "sum") (fun xs H Q => ∃ (a : Addr) (ns : List Int), xs = [.ref a] ∧ SqL X.K H a (ns.map V.int) ∧ Q (.int ns.sum) H) := by
  intro pins s σ H xs us Q I r h
  obtain ⟨a, ns, rfl, hq, q⟩ := h
  obtain ⟨u, rfl, ru⟩ := vals1 r
  cases ru
  obtain ⟨its, rv, tp, hz⟩ := I.list hq
  have hl := rv.length
  rw [List.length_map] at hl
  refine call_sum_walkG (lst_walk' I tp.isList hc fun s2 e W st hfp => ?_)
  subst e
  refine ⟨_, _, _, _, _, _, fun i => ns.getD i 0, rfl, W, st, hfp, nums_of rv, fun h' tk t' hk => ?_⟩
  refine ⟨.int ns.sum, H, I.kept (t' := tk) fun b o e => hk b o (fun m => ?_) (Heap.get?_push_of_some _ e), ⟨t', ?_⟩, q⟩
  · have := Heap.lt_size e
    rw [List.mem_singleton.mp m] at this
    exact Nat.lt_irrefl _ this
  · rw [List.size_toArray, ← hl, preSum_take ns _ (Nat.le_refl _), List.take_length]
end
end L2
set_option Elab.async false
set_option linter.all false
namespace Lin
def putG (wide : Int) (gs : List (List W)) (v : W) : List (List W) :=
  match gs.getLast? with
  | some g => if ((glue g).length : Int) + 1 + v.length ≤ wide then gs.dropLast ++ [g ++ [v]] else gs ++ [[v]]
  | none => [[v]]
def grp (wide : Int) (ws : List W) : List (List W) := ws.foldl (putG wide) []
theorem grp_snoc (wide : Int) (ws : List W) (v : W) : grp wide (ws ++ [v]) = putG wide (grp wide ws) v := by
  unfold grp
  rw [List.foldl_append]
  rfl
theorem putG_last (wide : Int) (R : List (List W)) (g : List W) (v : W) : putG wide (R ++ [g]) v = if ((glue g).length : Int) + 1 + v.length ≤ wide then R ++ [g ++ [v]] else R ++ [g] ++ [[v]] := by
  unfold putG
  rw [List.getLast?_concat, List.dropLast_concat]
theorem nil_or_snoc {α : Type} (l : List α) : l = [] ∨ ∃ r a, l = r ++ [a] := by
  by_cases h : l = []
  · exact .inl h
  · exact .inr ⟨_, _, (List.dropLast_concat_getLast h).symm⟩
theorem grp_ne (wide : Int) (ws : List W) : (∀ g ∈ grp wide ws, g ≠ []) ∧ (ws ≠ [] → grp wide ws ≠ []) :=
  snoc_ind (P := fun ws => (∀ g ∈ grp wide ws, g ≠ []) ∧ (ws ≠ [] → grp wide ws ≠ [])) ⟨fun g hg => (List.not_mem_nil hg).elim, fun h => absurd rfl h⟩ (fun ws v ih => by
    rw [grp_snoc]
    rcases nil_or_snoc (grp wide ws) with e | ⟨R, g, e⟩
    · rw [e]
      exact ⟨fun g hg => by rw [List.mem_singleton.mp hg]; simp, fun _ => by simp [putG]⟩
    · rw [e] at ih ⊢
      rw [putG_last]
      split
      · refine ⟨fun h hh => ?_, fun _ => by simp⟩
        rcases List.mem_append.mp hh with m | m
        · exact ih.1 h (List.mem_append_left _ m)
        · rw [List.mem_singleton.mp m]; simp
      · refine ⟨fun h hh => ?_, fun _ => by simp⟩
        rcases List.mem_append.mp hh with m | m
        · exact ih.1 h m
        · rw [List.mem_singleton.mp m]; simp) _ ws rfl
theorem grp_glue (wide : Int) (ws : List W) : (grp wide ws).map glue = taken wide ws :=
  snoc_ind (P := fun ws => (grp wide ws).map glue = taken wide ws) rfl (fun ws v ih => by
    rw [grp_snoc, taken_snoc, ← ih]
    rcases nil_or_snoc (grp wide ws) with e | ⟨R, g, e⟩
    · rw [e]
      rfl
    · have gn := (grp_ne wide ws).1 g (by rw [e]; simp)
      rw [e, putG_last, List.map_append]
      unfold put
      rw [show (List.map glue [g]) = [glue g] from rfl, List.getLast?_concat, List.dropLast_concat]
      dsimp only
      split
      · rw [List.map_append]
        show R.map glue ++ [glue (g ++ [v])] = _
        rw [glue_snoc _ _ gn]
      · rw [List.map_append, List.map_append]
        rfl) _ ws rfl
theorem grp_flat (wide : Int) (ws : List W) : (grp wide ws).flatten = ws :=
  snoc_ind (P := fun ws => (grp wide ws).flatten = ws) rfl (fun ws v ih => by
    rw [grp_snoc]
    conv => rhs; rw [← ih]
    rcases nil_or_snoc (grp wide ws) with e | ⟨R, g, e⟩
    · rw [e]
      simp [putG]
    · rw [e, putG_last]
      split <;> simp) _ ws rfl
theorem grp_len (wide : Int) (ws : List W) : (grp wide ws).length = (taken wide ws).length := by rw [← grp_glue, List.length_map]
def val (g h : List W) : Int := ((glue g).length : Int) + 1 + (h.headD []).length
def vals : List (List W) → List Int
  | [] => []
  | [_] => []
  | g :: h :: r => val g h :: vals (h :: r)
theorem vals_snoc : ∀ (R : List (List W)) (g h : List W), vals (R ++ [g] ++ [h]) = vals (R ++ [g]) ++ [val g h]
  | [], g, h => rfl
  | [a], g, h => rfl
  | a :: b :: r, g, h => by
    have ih := vals_snoc (b :: r) g h
    show val a b :: vals (b :: r ++ [g] ++ [h]) = val a b :: vals (b :: r ++ [g]) ++ [val g h]
    rw [ih]
    rfl
theorem vals_head : ∀ (R : List (List W)) (g g' : List W), g.headD [] = g'.headD [] → vals (R ++ [g]) = vals (R ++ [g'])
  | [], g, g', _ => rfl
  | [a], g, g', e => by
    show [val a g] = [val a g']
    unfold val
    rw [e]
  | a :: b :: r, g, g', e => by
    show val a b :: vals (b :: r ++ [g]) = val a b :: vals (b :: r ++ [g'])
    rw [vals_head (b :: r) g g' e]
theorem head_snoc {g : List W} (h : g ≠ []) (v : W) : (g ++ [v]).headD [] = g.headD [] := by
  cases g with
  | nil => exact absurd rfl h
  | cons a r => rfl
theorem vals_over (wide : Int) (ws : List W) : ∀ z ∈ vals (grp wide ws), wide < z :=
  snoc_ind (P := fun ws => ∀ z ∈ vals (grp wide ws), wide < z) (fun z hz => (List.not_mem_nil hz).elim) (fun ws v ih => by
    rw [grp_snoc]
    rcases nil_or_snoc (grp wide ws) with e | ⟨R, g, e⟩
    · rw [e]
      exact fun z hz => (List.not_mem_nil hz).elim
    · have gn := (grp_ne wide ws).1 g (by rw [e]; simp)
      rw [e] at ih ⊢
      rw [putG_last]
      split
      · rw [vals_head R _ g (head_snoc gn v)]
        exact ih
      · rw [vals_snoc]
        intro z hz
        rcases List.mem_append.mp hz with m | m
        · exact ih z m
        · rw [List.mem_singleton.mp m]
          unfold val
          show wide < ((glue g).length : Int) + 1 + (v.length : Int)
          omega) _ ws rfl
theorem grp_stay {wide v : Int} (hv : wide ≤ v) (ws : List W) : (∀ z ∈ vals (grp wide ws), v < z) → grp v ws = grp wide ws :=
  snoc_ind (P := fun ws => (∀ z ∈ vals (grp wide ws), v < z) → grp v ws = grp wide ws) (fun _ => rfl) (fun ws x ih => by
    rw [grp_snoc, grp_snoc]
    rcases nil_or_snoc (grp wide ws) with e | ⟨R, g, e⟩
    · intro _
      rw [ih (by rw [e]; exact fun z hz => (List.not_mem_nil hz).elim), e]
      rfl
    · have gn := (grp_ne wide ws).1 g (by rw [e]; simp)
      rw [e] at ih ⊢
      rw [putG_last]
      split
      · rw [vals_head R _ g (head_snoc gn x)]
        intro h
        rw [ih h, putG_last, if_pos (by omega)]
      · rw [vals_snoc]
        intro h
        rw [ih (fun z hz => h z (List.mem_append_left _ hz)), putG_last, if_neg]
        have := h (val g [x]) (by simp)
        unfold val at this
        have : v < ((glue g).length : Int) + 1 + (x.length : Int) := this
        omega) _ ws rfl
theorem vals_len : ∀ gs : List (List W), (vals gs).length = gs.length - 1
  | [] => rfl
  | [_] => rfl
  | g :: h :: r => by
    show (vals (h :: r)).length + 1 = _
    rw [vals_len (h :: r)]
    simp
def cnt (ws : List W) (v : Int) : Nat := (gr ws v ws.length).1
theorem cnt_taken (ws : List W) (v : Int) : (taken v ws).length = cnt ws v := by
  have := (taken_gr (ws := ws) (wide := v) (Nat.le_refl _)).1
  rwa [List.take_length] at this
theorem gr_anti {ws : List W} {v v' : Int} (h : v ≤ v') (hw : ∀ w ∈ ws, (w.length : Int) ≤ v) : ∀ k, k ≤ ws.length → (gr ws v' k).1 ≤ (gr ws v k).1 := fun k => Nat.strongRecOn k fun k ih hk => by
  by_cases h0 : k = 0
  · subst h0
    exact Nat.le_refl _
  · obtain ⟨s1, s2⟩ := gr_start (ws := ws) (wide := v) (k := k) (by omega)
    have ft := gr_fit hw (k := k) (by omega) hk
    have up := gr_up (ws := ws) (wide := v') (f := (gr ws v k).2) (k := k) (by omega) (by omega)
    have := ih _ s1 (by omega)
    omega
theorem cnt_anti {ws : List W} {v v' : Int} (h : v ≤ v') (hw : ∀ w ∈ ws, (w.length : Int) ≤ v) : cnt ws v' ≤ cnt ws v := gr_anti h hw _ (Nat.le_refl _)
theorem cnt_pos {ws : List W} (h : ws ≠ []) (v : Int) : 0 < cnt ws v := gr_pos (List.length_pos_iff.mpr h)
theorem cnt_le (ws : List W) (v : Int) : cnt ws v ≤ ws.length := gr_le _
def total (ws : List W) : Int := pos ws ws.length - 1
theorem cnt_total {ws : List W} (v : Int) (h : total ws ≤ v) : cnt ws v ≤ 1 := by
  have := gr_up (ws := ws) (wide := v) (f := 0) (k := ws.length) (Nat.zero_le _) (by rw [pos_zero]; unfold total at h; omega)
  exact this
def falls (c : Int → Nat) (lo : Int) : Nat → List (Int × Nat)
  | 0 => [(lo, c lo)]
  | k + 1 => if c (lo + (k + 1 : Nat)) < c (lo + k) then falls c lo k ++ [(lo + (k + 1 : Nat), c (lo + (k + 1 : Nat)))] else falls c lo k
theorem falls_same {c : Int → Nat} {lo : Int} {a : Nat} : ∀ {k : Nat}, a ≤ k → (∀ j, a ≤ j → j ≤ k → c (lo + j) = c (lo + a)) → falls c lo k = falls c lo a
  | 0, h, _ => by rw [Nat.le_zero.mp h]
  | k + 1, h, hc => by
    rcases Nat.lt_or_eq_of_le h with z | z
    · have ih := falls_same (c := c) (lo := lo) (a := a) (k := k) (by omega) fun j h1 h2 => hc j h1 (by omega)
      show (if c (lo + (k + 1 : Nat)) < c (lo + k) then _ else falls c lo k) = _
      rw [if_neg, ih]
      have e1 := hc (k + 1) (by omega) (Nat.le_refl _)
      have e2 := hc k (by omega) (by omega)
      omega
    · rw [z]
theorem falls_mem {c : Int → Nat} {lo : Int} : ∀ {k : Nat} {p : Int × Nat}, p ∈ falls c lo k → p = (lo, c lo) ∨ ∃ j, j < k ∧ p = (lo + (j + 1 : Nat), c (lo + (j + 1 : Nat))) ∧ c (lo + (j + 1 : Nat)) < c (lo + j)
  | 0, p, h => .inl (List.mem_singleton.mp h)
  | k + 1, p, h => by
    have h : p ∈ (if c (lo + (k + 1 : Nat)) < c (lo + k) then falls c lo k ++ [(lo + (k + 1 : Nat), c (lo + (k + 1 : Nat)))] else falls c lo k) := h
    split at h
    · rcases List.mem_append.mp h with m | m
      · rcases falls_mem m with e | ⟨j, h1, h2⟩
        · exact .inl e
        · exact .inr ⟨j, by omega, h2⟩
      · exact .inr ⟨k, Nat.lt_succ_self _, List.mem_singleton.mp m, by assumption⟩
    · rcases falls_mem h with e | ⟨j, h1, h2⟩
      · exact .inl e
      · exact .inr ⟨j, by omega, h2⟩
theorem falls_len {c : Int → Nat} {lo : Int} : ∀ k : Nat, (falls c lo k).length ≤ k + 1
  | 0 => Nat.le_refl _
  | k + 1 => by
    show (if c (lo + (k + 1 : Nat)) < c (lo + k) then falls c lo k ++ [(lo + (k + 1 : Nat), c (lo + (k + 1 : Nat)))] else falls c lo k).length ≤ _
    have := falls_len (c := c) (lo := lo) k
    split
    · rw [List.length_append, List.length_singleton]
      omega
    · omega
end Lin
set_option Elab.async false
set_option linter.all false
namespace Lin
def wid : List W → Nat
  | [] => 0
  | a :: r => max a.length (wid r)
theorem wid_le : ∀ {ws : List W} {u : W}, u ∈ ws → u.length ≤ wid ws
  | a :: r, u, h => by
    show u.length ≤ max a.length (wid r)
    rcases List.mem_cons.mp h with e | e
    · rw [e]; exact Nat.le_max_left _ _
    · exact Nat.le_trans (wid_le e) (Nat.le_max_right _ _)
theorem wid_mem : ∀ {ws : List W}, ws ≠ [] → ∃ u, u ∈ ws ∧ u.length = wid ws
  | [], h => absurd rfl h
  | [a], _ => ⟨a, List.mem_cons_self, (Nat.max_eq_left (Nat.zero_le _)).symm⟩
  | a :: b :: r, _ => by
    obtain ⟨u, hu, e⟩ := wid_mem (ws := b :: r) (by simp)
    by_cases c : a.length ≤ wid (b :: r)
    · exact ⟨u, List.mem_cons_of_mem _ hu, by rw [e]; exact (Nat.max_eq_right c).symm⟩
    · exact ⟨a, List.mem_cons_self, (Nat.max_eq_left (by omega)).symm⟩
theorem wid_eq {ws : List W} {M : Int} (hM : M ∈ ws.map fun u => (u.length : Int)) (hle : ∀ z ∈ ws.map fun u => (u.length : Int), z ≤ M) : M = (wid ws : Int) := by
  obtain ⟨u, hu, rfl⟩ := List.mem_map.mp hM
  obtain ⟨v, hv, e⟩ := wid_mem (ws := ws) (fun z => by rw [z] at hu; exact (List.not_mem_nil hu).elim)
  have h1 := wid_le hu
  have h2 := hle (v.length : Int) (List.mem_map.mpr ⟨v, hv, rfl⟩)
  omega
theorem pos_nn (ws : List W) (k : Nat) : 0 ≤ pos ws k := by
  have := pos_mono ws (Nat.zero_le k)
  rwa [pos_zero] at this
theorem wid_total {ws : List W} (h : ws ≠ []) : (wid ws : Int) ≤ total ws := by
  obtain ⟨u, hu, e⟩ := wid_mem h
  obtain ⟨i, hi, eu⟩ := List.mem_iff_getElem.mp hu
  have ps := pos_succ (List.getElem?_eq_getElem hi)
  rw [eu] at ps
  have := pos_mono ws (show i + 1 ≤ ws.length by omega)
  have := pos_nn ws i
  unfold total
  omega
def stairs (ws : List W) : List (Int × Nat) := if ws = [] then [(1, 1)] else falls (cnt ws) (wid ws) (total ws - wid ws).toNat
theorem step_stay {ws : List W} {w M v : Int} (hall : ∀ z ∈ vals (grp w ws), M ≤ z) (h1 : w ≤ v) (h2 : v < M) : cnt ws v = cnt ws w := by
  have e := grp_stay h1 ws fun z hz => Int.lt_of_lt_of_le h2 (hall z hz)
  rw [← cnt_taken, ← cnt_taken, ← grp_len, ← grp_len, e]
theorem falls_jump {ws : List W} {lo w M : Int} (h1 : lo ≤ w) (h2 : w < M) (hst : ∀ v, w ≤ v → v < M → cnt ws v = cnt ws w) :
    falls (cnt ws) lo (M - lo).toNat = if cnt ws M < cnt ws w then falls (cnt ws) lo (w - lo).toNat ++ [(M, cnt ws M)] else falls (cnt ws) lo (w - lo).toNat := by
  obtain ⟨k, hk⟩ : ∃ k : Nat, (M - lo).toNat = k + 1 := ⟨(M - lo).toNat - 1, by omega⟩
  rw [hk]
  show (if cnt ws (lo + (k + 1 : Nat)) < cnt ws (lo + k) then falls (cnt ws) lo k ++ [(lo + (k + 1 : Nat), cnt ws (lo + (k + 1 : Nat)))] else falls (cnt ws) lo k) = _
  have eM : lo + ((k + 1 : Nat) : Int) = M := by omega
  have e1 : cnt ws (lo + (k : Int)) = cnt ws w := hst _ (by omega) (by omega)
  have e2 : falls (cnt ws) lo k = falls (cnt ws) lo (w - lo).toNat := falls_same (by omega) fun j h3 h4 => by
    rw [hst _ (by omega) (by omega), hst (lo + ((w - lo).toNat : Int)) (by omega) (by omega)]
  rw [eM, e1, e2]
theorem falls_end {ws : List W} {lo w T : Int} (hn : ws ≠ []) (hw : ∀ u ∈ ws, (u.length : Int) ≤ lo) (h1 : lo ≤ w) (h2 : w ≤ T) (c1 : cnt ws w ≤ 1) : falls (cnt ws) lo (T - lo).toNat = falls (cnt ws) lo (w - lo).toNat := by
  refine falls_same (by omega) fun j h3 h4 => ?_
  have hw' : ∀ u ∈ ws, (u.length : Int) ≤ w := fun u hu => Int.le_trans (hw u hu) h1
  have a1 := cnt_anti (ws := ws) (v := w) (v' := lo + (j : Int)) (by omega) hw'
  have a2 := cnt_anti (ws := ws) (v := w) (v' := lo + ((w - lo).toNat : Int)) (by omega) hw'
  have b1 := cnt_pos hn (lo + (j : Int))
  have b2 := cnt_pos hn (lo + ((w - lo).toNat : Int))
  omega
theorem small_val {ws : List W} {w : Int} (h1 : w ≤ total ws) (c1 : 1 < cnt ws w) : ∃ z, z ∈ vals (grp w ws) ∧ z ≤ total ws := by
  apply Classical.byContradiction
  intro no
  have e := grp_stay h1 ws fun z hz => Int.not_le.mp fun y => no ⟨z, hz, y⟩
  have e2 : cnt ws (total ws) = cnt ws w := by rw [← cnt_taken, ← cnt_taken, ← grp_len, ← grp_len, e]
  have := cnt_total (ws := ws) (total ws) (Int.le_refl _)
  omega
theorem vals_get : ∀ {gs : List (List W)} {i : Nat} {g h : List W}, gs[i]? = some g → gs[i + 1]? = some h → (vals gs)[i]? = some (val g h)
  | [], i, g, h, e, _ => by simp at e
  | [a], i, g, h, _, e => by simp at e
  | a :: b :: r, 0, g, h, e1, e2 => by
    simp at e1 e2
    subst e1 e2
    rfl
  | a :: b :: r, i + 1, g, h, e1, e2 => by
    have := vals_get (gs := b :: r) (i := i) (g := g) (h := h) (by simpa using e1) (by simpa using e2)
    simpa [vals] using this
theorem sum_pos (ws : List W) : (ws.map fun u => (u.length : Int)).sum + ws.length = pos ws ws.length := by
  unfold pos
  rw [List.take_length]
  induction ws with
  | nil => rfl
  | cons a r ih =>
    rw [List.map_cons, List.sum_cons, List.map_cons, List.sum_cons, List.length_cons, ← ih]
    omega
end Lin
set_option Elab.async false
set_option linter.all false
set_option maxRecDepth 100000
set_option maxHeartbeats 4000000
namespace L2
open PySem PySem.Spec PyProof.Rows
section
variable {X : Cx} {pins : List (Addr × Obj)} {σ : St} {H : Hp} {s : Shared} {a : Addr} {y v : V} {u r : Value} {o : Option V} {A : Around} {E : Value → Shared → Prop}
theorem Inv.big (I : Inv X pins σ H s) : sysModules < s.heap.objs.size := by
  have h : mainGlobals < s.heap.objs.size := (I.mod.glob.keeps I.bk).lt
  exact Nat.lt_trans (by decide) h
end
theorem dk_empty {P : Program} {w : World} {H : Hp} (h : Heap) (hb : sysModules < h.objs.size) : ObjOk P w H (h.push { cls := .type "dict", data := .dict #[] }) h.objs.size (.dK []) :=
  ⟨Nat.zero_le _, beq_eq_false_iff_ne.mpr (Ne.symm (Nat.ne_of_lt hb)), [], .nil, Heap.DictOf.new h⟩
def tDNewK : TE := fun _ H Q => ∀ p, H p = none → Q (.ref p) (upd H p (.dK []))
section
variable {X : Cx} {pos : Pos}
theorem pe_dnewK : PE X (.Dict [] [] pos) tDNewK := fun pins s σ H Q I h =>
  wpAny_Dict_empty ⟨.ref s.heap.objs.size, _, I.laid (a := s.heap.objs.size) (o := .dK []) (t' := s.toks) (fun _ _ q => Heap.get?_push_of_some _ q) (Nat.le_refl _) (dk_empty s.heap I.big), rfl, h _ (I.hok.fresh (Nat.le_refl _))⟩
end
end L2
set_option Elab.async false
set_option linter.all false
set_option maxRecDepth 100000
set_option maxHeartbeats 1000000
namespace L2
open PySem
def GI (mg : Str → Option Value) (x : Str) (n : Int) : Prop := ∃ t, mg x = some (.int n t)
theorem pe_gi {X : Cx} {x : Str} {n : Int} {pos : Pos} (hg : Gl X x) (h : GI X.mg x n) (hd : (x == ("__debug__" : Str)) = false := by decide) : PE X (.Name x pos) (tC (.int n)) := by
  obtain ⟨t, h⟩ := h
  exact pe_glob hg h ⟨t, rfl⟩ hd
theorem pe_cls {X : Cx} {x : Str} {C : Addr} {pos : Pos} (hg : Gl X x) (hm : X.mg x = some (.ref C)) (hd : (x == ("__debug__" : Str)) = false := by decide) : PE X (.Name x pos) (tC (.ref C)) := pe_glob hg hm rfl hd
theorem pe_tyn {X : Cx} {x : Str} {T : String} {pos : Pos} (hg : Gl X x) (hm : X.mg x = none) (hv : bootBuiltins x = some (.type T)) (hn : x ≠ "__name__" := by decide) (hd : (x == ("__debug__" : Str)) = false := by decide) : PE X (.Name x pos) (tC (.ty T)) := pe_bltn hg hm hv rfl hn hd
end L2
namespace JH
open PySem L2 Lin
def top (i : Nat) : Stmt := PySem.Challenge.pw_pagepart_k69_printing_refused.main.body.getD i (.Pass ⟨0, 0, 0, 0⟩)
abbrev sSign : Stmt := top 14
abbrev sWord : Stmt := top 15
abbrev sAre : Stmt := top 16
abbrev sRefuse : Stmt := top 17
abbrev sTaken : Stmt := top 18
abbrev sWith : Stmt := top 20
abbrev sNextW : Stmt := top 21
abbrev sStairs : Stmt := top 22
abbrev sLw : Stmt := top 78
abbrev sLaw : Stmt := top 82
abbrev sWhole : Stmt := top 31
abbrev sHas : Stmt := top 38
abbrev sBr : Stmt := top 39
abbrev sNum : Stmt := top 40
abbrev sTree : Stmt := top 41
abbrev sLtree : Stmt := top 77
abbrev sRefT : Stmt := top 42
abbrev sBoxes : Stmt := top 43
abbrev sStir : Stmt := top 71
abbrev sCell : Stmt := top 72
abbrev sText : Stmt := top 46
abbrev sRTx : Stmt := top 47
abbrev sSbs : Stmt := top 48
abbrev sAll : Stmt := top 49
abbrev sExch : Stmt := top 50
abbrev sBst : Stmt := top 51
abbrev sSo : Stmt := top 52
abbrev sLow : Stmt := top 53
abbrev sNarw : Stmt := top 54
abbrev sTst : Stmt := top 55
abbrev sLh : Stmt := top 56
abbrev sLwide : Stmt := top 57
abbrev sHin : Stmt := top 64
theorem fresh {H : Hp} {p : Addr} {o : HO} {R : Hp → Prop} (hn : H p = none) (k : ∀ H1, Same H H1 → H1 p = some o → R H1) : R (upd H p o) :=
  k _ (fun b u e => by rw [upd_ne (ne_of_none e hn)]; exact e) upd_same
structure Callee (P : Program) (w : World) (K : PySem.W.Frag) (mg : Str → Option Value) (base : Heap) (CX : CXT) (k : Nat) (x : Str) (f : Addr) (fd : FuncData) (ps : List Str) (sp : Sp) : Prop where
  ok : FnOk P w K mg base CX k f fd ps sp
  bound : mg x = some (.ref f)
  kp : PySem.W.keepIn K (.ref f) = true
  bd : Binds K fd ps []
theorem at_map {ns : List Int} {k : Int} (h0 : 0 ≤ k) (h1 : k < ns.length) : atI (ns.map V.int) k = some (.int (ns.getD k.toNat 0)) := by
  obtain ⟨j, rfl⟩ := Int.eq_ofNat_of_zero_le h0
  refine atI_nat ?_
  rw [List.getElem?_map, List.getElem?_eq_getElem (by omega)]
  simp [List.getD, show j < ns.length by omega]
theorem same_upd {H H1 : Hp} {l : Addr} {o : HO} (S : Same H H1) (hn : H l = none) : Same H (upd H1 l o) := fun b u e => by
  rw [upd_ne (ne_of_none e hn)]
  exact S b u e
theorem same_new {H : Hp} {p : Addr} {o : HO} (hn : H p = none) : Same H (upd H p o) := fun b u e => by rw [upd_ne (ne_of_none e hn)]; exact e
theorem evl_neg1 {σ : St} {H : Hp} : Evl (tUn (rU fun i => V.int (-i)) (tC (V.int 1))) σ H (.int (-1)) := fun Q q => ⟨1, rfl, q⟩
def tx (ws : List W) : List V := ws.map fun w => V.str (txt w)
theorem tx_len (ws : List W) : (tx ws).length = ws.length := List.length_map _
theorem tx_get {ws : List W} {i : Nat} {w : W} (h : ws[i]? = some w) : (tx ws)[i]? = some (V.str (txt w)) := by
  unfold tx
  rw [List.getElem?_map, h]
  rfl
theorem tx_get' {ws : List W} {i : Nat} {x : V} (h : (tx ws)[i]? = some x) : ∃ w, ws[i]? = some w ∧ x = V.str (txt w) := by
  unfold tx at h
  rw [List.getElem?_map] at h
  cases e : ws[i]? with
  | none => rw [e] at h; cases h
  | some w => rw [e] at h; cases h; exact ⟨w, rfl, rfl⟩
theorem tx_snoc (ws : List W) (w : W) : tx ws ++ [V.str (txt w)] = tx (ws ++ [w]) := by
  unfold tx
  rw [List.map_append]
  rfl
def good (c : Nat) : Prop := 33 ≤ c ∧ c ≤ 126 ∧ c ≠ 37
def okW (w : W) : Prop := 1 ≤ w.length ∧ w.length ≤ 12 ∧ ∀ c ∈ w, good c
structure Nm (K : PySem.W.Frag) (mg : Str → Option Value) : Prop where
  gOUT : GI mg "LEFT_OUT" 37
  gMOST : GI mg "MOST_SIGNS" 12
  ti : mg "isinstance" = none
  tstr : mg "str" = none
  tlist : mg "list" = none
  tl : mg "len" = none
  tall : mg "all" = none
  tany : mg "any" = none
  tord : mg "ord" = none
  kNs : PySem.W.kitOne K (.type "NoneType") (.type "str") = some false
  kBs : PySem.W.kitOne K (.type "bool") (.type "str") = some false
  kIs : PySem.W.kitOne K (.type "int") (.type "str") = some false
  kLs : PySem.W.kitOne K (.type "list") (.type "str") = some false
  kTs : PySem.W.kitOne K (.type "tuple") (.type "str") = some false
  kDs : PySem.W.kitOne K (.type "dict") (.type "str") = some false
  kNl : PySem.W.kitOne K (.type "NoneType") (.type "list") = some false
  kSl : PySem.W.kitOne K (.type "str") (.type "list") = some false
  kIl : PySem.W.kitOne K (.type "int") (.type "list") = some false
  kTl : PySem.W.kitOne K (.type "tuple") (.type "list") = some false
  kDl : PySem.W.kitOne K (.type "dict") (.type "list") = some false
  kBl : PySem.W.kitOne K (.type "bool") (.type "list") = some false
def isG (c : Nat) : Bool := decide (33 ≤ c) && (decide (c ≤ 126) && decide (c ≠ 37))
def isW (l : W) : Bool := decide (1 ≤ l.length) && (decide (l.length ≤ 12) && l.all isG)
theorem isG_iff {c : Nat} : isG c = true ↔ good c := by
  unfold isG good
  rw [Bool.and_eq_true, Bool.and_eq_true, decide_eq_true_eq, decide_eq_true_eq, decide_eq_true_eq]
theorem isW_iff {l : W} : isW l = true ↔ okW l := by
  unfold isW okW
  rw [Bool.and_eq_true, Bool.and_eq_true, decide_eq_true_eq, decide_eq_true_eq, List.all_eq_true]
  exact and_congr Iff.rfl (and_congr Iff.rfl ⟨fun h c hc => isG_iff.mp (h c hc), fun h c hc => isG_iff.mpr (h c hc)⟩)
inductive NoS (H : Hp) : V → Prop where
  | non : NoS H .non
  | bl (b : Bool) : NoS H (.bl b)
  | int (i : Int) : NoS H (.int i)
  | lst {a : Addr} {xs : List V} (e : H a = some (.lst xs)) : NoS H (.ref a)
  | tup {a : Addr} {xs : List V} (e : H a = some (.tup xs)) : NoS H (.ref a)
  | dK {a : Addr} {kvs : List (Key × V)} (e : H a = some (.dK kvs)) : NoS H (.ref a)
inductive NoL (H : Hp) : V → Prop where
  | non : NoL H .non
  | bl (b : Bool) : NoL H (.bl b)
  | int (i : Int) : NoL H (.int i)
  | str (x : Str) : NoL H (.str x)
  | tup {a : Addr} {xs : List V} (e : H a = some (.tup xs)) : NoL H (.ref a)
  | dK {a : Addr} {kvs : List (Key × V)} (e : H a = some (.dK kvs)) : NoL H (.ref a)
theorem NoS.same {H H' : Hp} (S : Same H H') {x : V} (h : NoS H x) : NoS H' x := by
  cases h with
  | non => exact .non
  | bl b => exact .bl b
  | int i => exact .int i
  | lst e => exact .lst (S _ _ e)
  | tup e => exact .tup (S _ _ e)
  | dK e => exact .dK (S _ _ e)
theorem NoL.same {H H' : Hp} (S : Same H H') {x : V} (h : NoL H x) : NoL H' x := by
  cases h with
  | non => exact .non
  | bl b => exact .bl b
  | int i => exact .int i
  | str x => exact .str x
  | tup e => exact .tup (S _ _ e)
  | dK e => exact .dK (S _ _ e)
theorem NoS.ty {K : PySem.W.Frag} {mg : Str → Option Value} (Z : Nm K mg) {H : Hp} {x : V} (h : NoS H x) : ∃ t, TyX K H x t ∧ PySem.W.kitOne K t (.type "str") = some false := by
  cases h with
  | non => exact ⟨_, .of .non, Z.kNs⟩
  | bl b => exact ⟨_, .of (.bl b), Z.kBs⟩
  | int i => exact ⟨_, .of (.int i), Z.kIs⟩
  | lst e => exact ⟨_, .of (.lst e), Z.kLs⟩
  | tup e => exact ⟨_, .of (.tup e), Z.kTs⟩
  | dK e => exact ⟨_, .of (.dK e), Z.kDs⟩
theorem NoL.ty {K : PySem.W.Frag} {mg : Str → Option Value} (Z : Nm K mg) {H : Hp} {x : V} (h : NoL H x) : ∃ t, TyX K H x t ∧ PySem.W.kitOne K t (.type "list") = some false := by
  cases h with
  | non => exact ⟨_, .of .non, Z.kNl⟩
  | bl b => exact ⟨_, .of (.bl b), Z.kBl⟩
  | int i => exact ⟨_, .of (.int i), Z.kIl⟩
  | str x => exact ⟨_, .of (.str x), Z.kSl⟩
  | tup e => exact ⟨_, .of (.tup e), Z.kTl⟩
  | dK e => exact ⟨_, .of (.dK e), Z.kDl⟩
def JW (H : Hp) (x : V) (b : Bool) : Prop := (∃ l : W, x = .str (txt l) ∧ (∀ c ∈ l, c < 128) ∧ l.length ≤ 1000 ∧ b = isW l) ∨ (b = false ∧ NoS H x)
theorem JW.same {H H' : Hp} (S : Same H H') {x : V} {b : Bool} (h : JW H x b) : JW H' x b := h.imp id fun h => ⟨h.1, h.2.same S⟩
def JWs (H : Hp) : List V → List Bool → Prop := Paired (JW H)
theorem JWs.same {H H' : Hp} (S : Same H H') : ∀ {vs : List V} {bs : List Bool}, JWs H vs bs → JWs H' vs bs
  | _, _, .nil => .nil
  | _, _, .cons h t => .cons (h.same S) (JWs.same S t)
theorem JWs.len {H : Hp} {vs : List V} {bs : List Bool} (h : JWs H vs bs) : vs.length = bs.length := Paired.length h
theorem JWs.get {H : Hp} : ∀ {vs : List V} {bs : List Bool} {i : Nat} {v : V}, JWs H vs bs → vs[i]? = some v → ∃ b, bs[i]? = some b ∧ JW H v b
  | _, _, _, _, .nil, e => by simp at e
  | _, _, 0, _, .cons r _, e => by simp at e; subst e; exact ⟨_, rfl, r⟩
  | _, _, i + 1, v, .cons _ t, e => by
    obtain ⟨p, h1, h2⟩ := JWs.get (i := i) (v := v) t (by simpa using e)
    exact ⟨p, by simpa using h1, h2⟩
theorem jw_good {H : Hp} {u : W} (h : okW u) : JW H (.str (txt u)) true := .inl ⟨u, rfl, fun c hc => by
  have := h.2.2 c hc
  unfold good at this
  omega, by have := h.2.1; omega, (isW_iff.mpr h).symm⟩
theorem jws_good {H : Hp} : ∀ {ws : List W}, (∀ u ∈ ws, okW u) → JWs H (tx ws) (List.replicate ws.length true)
  | [], _ => .nil
  | u :: r, h => .cons (jw_good (h u List.mem_cons_self)) (jws_good (ws := r) fun v hv => h v (List.mem_cons_of_mem _ hv))
def Bad (H : Hp) (x : V) : Prop := (∃ (a : Addr) (xs : List V) (bs : List Bool), x = .ref a ∧ H a = some (.lst xs) ∧ JWs H xs bs ∧ xs.length ≤ 1000 ∧ bs.all id = false) ∨ NoL H x
def spSign : Sp := fun vs H Q _ => ∃ c : Nat, vs = [.str (txt [c])] ∧ Q (.bl (isG c)) H
def spWord : Sp := fun vs H Q _ => ∃ (x : V) (b : Bool), vs = [x] ∧ JW H x b ∧ ∀ H', Same H H' → Q (.bl b) H'
def spAre : Sp := fun vs H Q _ => ∃ x : V, vs = [x] ∧ ((∃ (a : Addr) (xs : List V) (bs : List Bool), x = .ref a ∧ H a = some (.lst xs) ∧ JWs H xs bs ∧ xs.length ≤ 1000 ∧ ∀ H', Same H H' → Q (.bl (bs.all id)) H') ∨ (NoL H x ∧ Q (.bl false) H))
def spRefuse (C : Addr) : Sp := fun vs H Q E => ∃ x : V, vs = [x] ∧ ((∃ (a : Addr) (ws : List W), x = .ref a ∧ H a = some (.lst (tx ws)) ∧ (∀ w ∈ ws, okW w) ∧ ws.length ≤ 1000 ∧ ∀ H', Same H H' → Q .non H') ∨ (Bad H x ∧ ∀ H', Same H H' → E (.ref C) none H'))
def spTaken : Sp := fun vs H Q _ => ∃ (a : Addr) (ws : List W) (wide : Int), vs = [.ref a, .int wide] ∧ H a = some (.lst (tx ws)) ∧ (∀ w ∈ ws, okW w) ∧ ws.length ≤ 1000 ∧
  ∀ (l : Addr) (H' : Hp), Same H H' → H l = none → H' l = some (.lst (tx (taken wide ws))) → Q (.ref l) H'
theorem lt_one (c d : Nat) : decide ((txt [c]).cps.toList < (txt [d]).cps.toList) = decide (c < d) := by
  rw [decide_eq_decide]
  show ([c] : List Nat) < [d] ↔ c < d
  rw [List.cons_lt_cons_iff]
  constructor
  · rintro (z | ⟨_, z⟩)
    · exact z
    · exact absurd z (List.not_lt_nil _)
  · exact .inl
section
variable {P : Program} {w : World} {K : PySem.W.Frag} {mg : Str → Option Value} {base : Heap}
theorem scSign : FnScope ["sign"] ["sign"] (defScope sSign) := ⟨rfl, rfl, rfl, by decide +kernel, rfl, by decide +kernel, by decide +kernel⟩
theorem ok_sign {f : Addr} {fd : FuncData} (F : Fun K "is_sign" "is_sign" sSign f fd) (Z : Nm K mg) : FnOk P w K mg base CX0 1 f fd ["sign"] spSign := by
  obtain ⟨gOUT, gMOST, ti, tstr, tlist, tl, tall, tany, tord, _, _, _, _, _, _, _, _, _, _, _, _⟩ := Z
  refine F.ok scSign (fun vs H Q E h => ?_) (fun cdv A outer s H vs Q E hr h => ?_)
  · obtain ⟨c, rfl, _⟩ := h
    rfl
  · obtain ⟨c, rfl, q⟩ := h
    refine ⟨_, (pss_one (ps_ret (pe_and (pe_chain op_le_str op_le_str pe_str (pv 0) pe_str) (pe_one (pe_cmpR op_ne (pe_callB call_ord (by rfl) tord PyProof.Rows.boot_ord (pa_cons (pv 0) pa_nil)) (pe_gi rfl gOUT) (nomark _)))))), ?_⟩
    have e1 : ("!" : Str) = txt [33] := by decide +kernel
    have e2 : ("~" : Str) = txt [126] := by decide +kernel
    refine ⟨_, rfl, _, _, rfl, rfl, _, rfl, ?_⟩
    have d1 : (!decide ((txt [c]).cps.toList < (("!" : Str)).cps.toList)) = decide (33 ≤ c) := by rw [e1, lt_one, ← decide_not, decide_eq_decide]; omega
    rw [d1]
    unfold isG at q
    by_cases c1 : 33 ≤ c
    · rw [decide_eq_true c1] at q ⊢
      refine iteT ⟨_, _, rfl, rfl, _, rfl, ?_⟩
      have d2 : (!decide ((("~" : Str)).cps.toList < (txt [c]).cps.toList)) = decide (c ≤ 126) := by rw [e2, lt_one, ← decide_not, decide_eq_decide]; omega
      rw [d2]
      by_cases c2 : c ≤ 126
      · rw [decide_eq_true c2] at q ⊢
        refine iteT ⟨_, rfl, _, rfl, rfl, rfl, ?_⟩
        have d3 : (!decide (V.int (((txt [c]).cps.getD 0 0 : Nat)) = V.int 37)) = decide (c ≠ 37) := by
          have : (txt [c]).cps.getD 0 0 = c := rfl
          rw [this, dec_int]
          by_cases h : c = 37
          · subst h; rfl
          · rw [decide_eq_true h]; simp; omega
        rw [d3]
        exact q
      · rw [decide_eq_false c2] at q ⊢
        exact iteF q
    · rw [decide_eq_false c1] at q ⊢
      exact iteF ⟨_, rfl, iteF q⟩
end
end JH
set_option Elab.async false
set_option linter.all false
set_option maxRecDepth 100000
set_option maxHeartbeats 1000000
namespace JH
open PySem L2 Lin
theorem taken_bound (wide : Int) (ws : List W) : (∀ w ∈ ws, w.length ≤ 12) → ∀ r ∈ taken wide ws, r.length ≤ 13 * ws.length :=
  snoc_ind (P := fun ws => (∀ w ∈ ws, w.length ≤ 12) → ∀ r ∈ taken wide ws, r.length ≤ 13 * ws.length) (fun _ r hr => (List.not_mem_nil hr).elim) (fun ws w ih h r hr => by
    have ih := ih fun v hv => h v (List.mem_append_left _ hv)
    have hw := h w (by simp)
    rw [taken_snoc] at hr
    rw [List.length_append, List.length_singleton]
    unfold put at hr
    split at hr
    · rename_i q e
      have hq := ih q (List.mem_of_getLast? e)
      split at hr
      · rcases List.mem_append.mp hr with m | m
        · have := ih r (List.dropLast_subset _ m)
          omega
        · rw [List.mem_singleton.mp m, List.length_append, List.length_cons]
          omega
      · rcases List.mem_append.mp hr with m | m
        · have := ih r m
          omega
        · rw [List.mem_singleton.mp m]
          omega
    · rw [List.mem_singleton.mp hr]
      omega) _ ws rfl
theorem set_last (us : List V) (v u : V) : ixN (us ++ [v]).length (-1) = some us.length ∧ (us ++ [v]).set us.length u = us ++ [u] := by
  refine ⟨?_, ?_⟩
  · unfold ixN
    rw [List.length_append, List.length_singleton, if_neg (by omega), if_pos (by omega)]
    congr 1
    omega
  · rw [List.set_append_right _ _ (Nat.le_refl _), Nat.sub_self]
    rfl
section
variable {P : Program} {w : World} {K : PySem.W.Frag} {mg : Str → Option Value} {base : Heap}
theorem scWord : FnScope ["thing"] ["thing"] (defScope sWord) := ⟨rfl, rfl, rfl, by decide +kernel, rfl, by decide +kernel, by decide +kernel⟩
theorem ok_word {f fS : Addr} {fd fdS : FuncData} (F : Fun K "is_word" "is_word" sWord f fd) (Z : Nm K mg) (Si : Callee P w K mg base CX0 1 "is_sign" fS fdS ["sign"] spSign) : FnOk P w K mg base CX0 2 f fd ["thing"] spWord := by
  have Z' := Z
  obtain ⟨gOUT, gMOST, ti, tstr, tlist, tl, tall, tany, tord, _, _, _, _, _, _, _, _, _, _, _, _⟩ := Z
  refine F.ok scWord (fun vs H Q E h => ?_) (fun cdv A outer s H vs Q E hr h => ?_)
  · obtain ⟨x, b, rfl, _⟩ := h
    rfl
  · obtain ⟨x, b, rfl, hJ, q⟩ := h
    refine ⟨_, (pss_cons (ps_if (PW.pt (pw_or (pt_not (pt_val (pe_callB call_isi (by rfl) ti PyProof.Rows.boot_isinstance (pa_cons (pv 0) (pa_cons (pe_tyn rfl tstr PyProof.Rows.boot_str) pa_nil))))) (pw_or1 (pt_not (pt_chain op_le op_le pe_int (pe_callB call_len_str (by rfl) tl PySem.boot_len (pa_cons (pv 0) pa_nil)) (pe_gi rfl gMOST))))))
      (pss_one (ps_ret pe_bl))
      pss_nil)
      (pss_one (ps_ret (pe_callB (call_allL rfl) (by rfl) tall PyProof.Rows.boot_all (pa_cons (pe_comp (Nc := ["sign"]) (ix := [none]) rfl rfl (by exact (pi_txt (pv 0))) (fun _ _ _ _ _ => (pg_name (i := 0) (by show (["sign"] : List Str).Nodup; decide +kernel) rfl (Or.inl rfl))) (fun _ _ _ _ _ => pts_nil) (fun _ _ _ _ _ => (pe_call Si.ok hr rfl Si.bound Si.kp Si.bd .nil pass0 (pa_cons (pv 0) pa_nil)))) pa_nil))))), ?_⟩
    rcases hJ with ⟨l, rfl, asc, l1000, rfl⟩ | ⟨rfl, ns⟩
    · refine ⟨_, rfl, _, _, _, _, rfl, rfl, .of (.str _), rfl, _, rfl, iteF ?_⟩
      refine ⟨_, rfl, txt l, rfl, (by rw [txt_len]; exact Nat.le_trans l1000 (by decide)), _, _, rfl, rfl, _, rfl, ?_⟩
      rw [txt_len]
      have q0 := q H (Same.refl _)
      unfold isW at q q0
      by_cases c1 : 1 ≤ l.length
      · rw [decide_eq_true c1] at q q0
        have d1 : decide ((1 : Int) ≤ (l.length : Nat)) = true := decide_eq_true (by omega)
        rw [d1]
        refine iteT ⟨_, _, rfl, rfl, _, rfl, ?_⟩
        by_cases c2 : l.length ≤ 12
        · rw [decide_eq_true c2] at q q0
          have d2 : decide (((l.length : Nat) : Int) ≤ 12) = true := decide_eq_true (by omega)
          rw [d2]
          refine iteF ?_
          refine ⟨_, rfl, l, rfl, asc, cmp_txt (l := l) (fun i ys σ H' => ys = ((l.take i).map isG).map V.bl ∧ H' = H ∧ ∃ o, σ = [o]) ⟨rfl, rfl, none, rfl⟩
            (fun i ys σ H' hi ⟨e, _⟩ => by rw [e, List.length_map, List.length_map, List.length_take]; exact Nat.le_trans (show _ ≤ 1000 by omega) (by decide)) ?_ ?_⟩
          · rintro ys σ H' ⟨e, rfl, _⟩ la nl
            rw [List.take_length] at e
            subst e
            refine ⟨la, l.map isG, rfl, SqL.of upd_same, ?_⟩
            rw [List.all_map]
            exact q _ (same_new nl)
          · rintro i c ys σ H' hx ⟨e, rfl, o, rfl⟩
            subst e
            obtain ⟨hil, ev⟩ := List.getElem?_eq_some_iff.mp hx
            dsimp only [gName, tYes]
            refine iteT ?_
            refine ⟨_, rfl, c, rfl, ?_, rfl, _, rfl⟩
            rw [← List.take_append_getElem hil, ev, List.map_append, List.map_append]
            rfl
        · rw [decide_eq_false c2] at q q0
          have d2 : decide (((l.length : Nat) : Int) ≤ 12) = false := decide_eq_false (by omega)
          rw [d2]
          exact iteT q0
      · rw [decide_eq_false c1] at q q0
        have d1 : decide ((1 : Int) ≤ (l.length : Nat)) = false := decide_eq_false (by omega)
        rw [d1]
        exact iteF ⟨_, rfl, iteT q0⟩
    · obtain ⟨t, ty, k⟩ := ns.ty Z'
      exact ⟨_, rfl, _, _, t, _, rfl, rfl, ty, k, _, rfl, iteT (iteT (q H (Same.refl _)))⟩
theorem scAre : FnScope ["things"] ["things"] (defScope sAre) := ⟨rfl, rfl, rfl, by decide +kernel, rfl, by decide +kernel, by decide +kernel⟩
theorem ok_are {f fS : Addr} {fd fdS : FuncData} (F : Fun K "are_words" "are_words" sAre f fd) (Z : Nm K mg) (Wo : Callee P w K mg base CX0 2 "is_word" fS fdS ["thing"] spWord) : FnOk P w K mg base CX0 3 f fd ["things"] spAre := by
  have Z' := Z
  obtain ⟨gOUT, gMOST, ti, tstr, tlist, tl, tall, tany, tord, _, _, _, _, _, _, _, _, _, _, _, _⟩ := Z
  refine F.ok scAre (fun vs H Q E h => ?_) (fun cdv A outer s H vs Q E hr h => ?_)
  · obtain ⟨x, rfl, _⟩ := h
    rfl
  · obtain ⟨x, rfl, h⟩ := h
    refine ⟨_, (pss_one (ps_ret (pe_and (pe_callB call_isi (by rfl) ti PyProof.Rows.boot_isinstance (pa_cons (pv 0) (pa_cons (pe_tyn rfl tlist PyProof.Rows.boot_list) pa_nil))) (pe_one (pe_callB (call_allL rfl) (by rfl) tall PyProof.Rows.boot_all (pa_cons (pe_comp (Nc := ["thing"]) (ix := [none]) rfl rfl (by refine' pi_list ?zz; case zz => exact (pv 0)) (fun _ _ _ _ _ => (pg_name (i := 0) (by show (["thing"] : List Str).Nodup; decide +kernel) rfl (Or.inl rfl))) (fun _ _ _ _ _ => pts_nil) (fun _ _ _ _ _ => (pe_call Wo.ok hr rfl Wo.bound Wo.kp Wo.bd .nil pass0 (pa_cons (pv 0) pa_nil)))) pa_nil)))))), ?_⟩
    rcases h with ⟨a, xs, bs, rfl, ha, hJ, hn, q⟩ | ⟨nl, q⟩
    · refine ⟨_, rfl, _, _, _, _, rfl, rfl, .of (.lst ha), rfl, _, rfl, iteT ?_⟩
      have lb := hJ.len
      refine ⟨_, rfl, a, rfl, ⟨_, SqL.of ha⟩, cmp_list (K := K) (a := a) (xs := xs) (fun i ys σ H' => ys = (bs.take i).map V.bl ∧ Same H H' ∧ ∃ o, σ = [o]) ⟨rfl, Same.refl _, none, rfl⟩
        (fun i ys σ H' hi ⟨e, S, _⟩ => ⟨by rw [e, List.length_map, List.length_take]; exact Nat.le_trans (show _ ≤ 1000 by omega) (by decide), SqL.of (S _ _ ha)⟩) ?_ ?_⟩
      · rintro ys σ H' ⟨e, S, _⟩ la nl
        rw [lb, List.take_length] at e
        subst e
        exact ⟨la, bs, rfl, SqL.of upd_same, q _ (S.trans (same_new nl))⟩
      · rintro i x ys σ H' hx ⟨e, S, o, rfl⟩
        subst e
        obtain ⟨b, eb, hj⟩ := hJ.get hx
        obtain ⟨hil, ev⟩ := List.getElem?_eq_some_iff.mp eb
        dsimp only [gName, tYes]
        refine iteT ?_
        refine ⟨_, rfl, x, b, rfl, hj.same S, fun H2 S2 => ⟨?_, S.trans S2, _, rfl⟩⟩
        rw [← List.take_append_getElem hil, ev, List.map_append]
        rfl
    · obtain ⟨t, ty, k⟩ := nl.ty Z'
      exact ⟨_, rfl, _, _, t, _, rfl, rfl, ty, k, _, rfl, iteF q⟩
theorem scRefuse : FnScope ["things"] ["things"] (defScope sRefuse) := ⟨rfl, rfl, rfl, by decide +kernel, rfl, by decide +kernel, by decide +kernel⟩
theorem ok_refuse {f fS C : Addr} {fd fdS : FuncData} (F : Fun K "refuse_no_words" "refuse_no_words" sRefuse f fd) (ex : Exc K mg "NoTexts" C) (Ar : Callee P w K mg base CX0 3 "are_words" fS fdS ["things"] spAre) : FnOk P w K mg base (CXE P w) 4 f fd ["things"] (spRefuse C) := by
  refine F.okE scRefuse (fun vs H Q E h => ?_) (fun cdv A outer s H vs Q E hr hh h => ?_)
  · obtain ⟨x, rfl, _⟩ := h
    rfl
  · obtain ⟨x, rfl, h⟩ := h
    refine ⟨_, (pss_one (ps_if (pt_not (pt_val (pe_call Ar.ok hr rfl Ar.bound Ar.kp Ar.bd .nil pass0 (pa_cons (pv 0) pa_nil))))
      (pss_one (ps_raise ex hh rfl (pa_cons pe_str pa_nil)))
      pss_nil)), ?_⟩
    rcases h with ⟨a, ws, rfl, ha, hw, hn, q⟩ | ⟨bad, qe⟩
    · refine ⟨_, rfl, _, rfl, .inl ⟨a, tx ws, _, rfl, ha, jws_good hw, by rw [tx_len]; exact hn, fun H' S => ⟨_, rfl, ?_⟩⟩⟩
      have e : (List.replicate ws.length true).all id = true := by simp
      rw [e]
      exact iteF (q H' S)
    · rcases bad with ⟨a, xs, bs, rfl, ha, hJ, hn, hb⟩ | nl
      · refine ⟨_, rfl, _, rfl, .inl ⟨a, xs, bs, rfl, ha, hJ, hn, fun H' S => ⟨_, rfl, ?_⟩⟩⟩
        rw [hb]
        exact iteT ⟨by show 1 ≤ sizeLine; decide, qe H' S⟩
      · exact ⟨_, rfl, _, rfl, .inr ⟨nl, _, rfl, iteT ⟨by show 1 ≤ sizeLine; decide, qe H (Same.refl _)⟩⟩⟩
theorem scTaken : FnScope ["words", "wide", "rows", "word"] ["words", "wide"] (defScope sTaken) := ⟨rfl, rfl, rfl, by decide +kernel, rfl, by decide +kernel, by decide +kernel⟩
theorem ok_taken {f : Addr} {fd : FuncData} (F : Fun K "taken" "taken" sTaken f fd) (tl : mg "len" = none) : FnOk P w K mg base CX0 1 f fd ["words", "wide"] spTaken := by
  refine F.ok scTaken (fun vs H Q E h => ?_) (fun cdv A outer s H vs Q E hr h => ?_)
  · obtain ⟨a, ws, wide, rfl, _⟩ := h
    rfl
  · obtain ⟨a, ws, wide, rfl, ha, hw, hn, q⟩ := h
    refine ⟨_, (pss_cons (ps_set (i := 2) scTaken.nd rfl (Or.inl rfl) (pe_lst pa_nil))
      (pss_cons (ps_for PassesOwn.never rfl (pi_list (pv 0)) (pg_name (i := 3) scTaken.nd rfl (Or.inl rfl))
      (pss_one (ps_if (PW.pt (pw_and (pt_truth (pv 2) (fun _ => rfl)) (pw_and1 (pt_cmpR op_le (pe_op op_add (pe_op op_add (pe_callB call_len_str (by rfl) tl PySem.boot_len (pa_cons (pe_ix ix_list (pv 2) (pe_un un_neg pe_int) (fun _ _ => rfl)) pa_nil)) pe_int) (pe_callB call_len_str (by rfl) tl PySem.boot_len (pa_cons (pv 3) pa_nil))) (pv 1) (nomark _)))))
        (pss_one (ps_asg (pe_op op_add_str (pe_op op_add_str (pe_ix ix_list (pv 2) (pe_un un_neg pe_int) (fun _ _ => rfl)) pe_str) (pv 3)) (pg_sub (pv 2) (pe_un un_neg pe_int) set_list)))
        (pss_one (ps_expr (pe_bm PySem.F.plainAttrs_list PySem.F.slot_list_append PySem.F.type_list_append mt_append (pv 2) (pa_cons (pv 3) pa_nil)))))))
      (pss_one (ps_ret (pv 2))))), ?_⟩
    refine ⟨by show 0 ≤ sizeLine; decide, fun l nl => ?_⟩
    refine fresh (R := fun H1 => _) nl fun H1 S1 h1 => ?_
    refine ⟨_, rfl, a, rfl, ⟨_, SqL.of (S1 _ _ ha)⟩, ?_⟩
    refine for_list (K := K) (a := a) (xs := tx ws) (fun i σ H2 => ∃ o : Option V, σ = [some (.ref a), some (.int wide), some (.ref l), o] ∧ Same H H2 ∧ H2 l = some (.lst (tx (taken wide (ws.take i)))))
      ⟨none, rfl, S1, h1⟩ (fun i σ H2 _ ⟨_, _, S, _⟩ => SqL.of (S _ _ ha)) ?_ ?_
    · rintro i x σ H2 hi ⟨o, rfl, S, hl⟩
      obtain ⟨v, hv, rfl⟩ := tx_get' hi
      obtain ⟨hil, ev⟩ := List.getElem?_eq_some_iff.mp hv
      have et : taken wide (ws.take (i + 1)) = put wide (taken wide (ws.take i)) v := by rw [← List.take_append_getElem hil, ev, taken_snoc]
      rw [et]
      have bd := taken_bound wide (ws.take i) fun u hu => (hw u (List.mem_of_mem_take hu)).2.1
      have lb := taken_len_le wide (ws.take i)
      rw [List.length_take] at bd lb
      have vb := (hw v (List.mem_of_getElem? hv)).2.1
      generalize taken wide (ws.take i) = rows at hl bd lb ⊢
      refine run_gname ?_
      unfold put
      cases el : rows.getLast? with
      | none =>
        have e' : rows = [] := List.getLast?_eq_none_iff.mp el
        subst e'
        refine ⟨_, rfl, false, .inl ⟨[], SqL.of hl, rfl⟩, iteF ?_⟩
        exact ⟨_, rfl, .inl ⟨rfl, _, SqL.of hl⟩, _, rfl, l, _, _, rfl, rfl, hl, by show 0 < sizeLine; decide, _, rfl, same_upd S nl, by rw [upd_same]; rfl⟩
      | some r =>
        have sp := last_split el
        have rb := bd r (List.mem_of_getLast? el)
        have ers : tx rows = tx rows.dropLast ++ [V.str (txt r)] := by
          conv => lhs; rw [sp]
          rw [tx_snoc]
        have hl2 : H2 l = some (.lst (tx rows.dropLast ++ [V.str (txt r)])) := by rw [← ers]; exact hl
        have ea : atI (tx rows.dropLast ++ [V.str (txt r)]) (-1) = some (V.str (txt r)) := atI_last _ _
        have rs : r.length ≤ 100000 := by omega
        refine ⟨_, rfl, true, .inl ⟨_, SqL.of hl2, by simp⟩, iteT ?_⟩
        refine tst_of (p := (r.length : Int) + 1 + v.length ≤ wide) (evl_I0 (evl_I0 (evl_I0 (evl_lenS (evl_ixL (evl_var rfl) evl_neg1 (SqL.of hl2) ea) (by omega)) evl_c) (evl_lenS (evl_var rfl) (by omega))) (evl_var rfl)) _ ?_
        dsimp only
        refine ite2 (fun c => ?_) (fun c => ?_)
        · have c := of_decide_eq_true c
          rw [if_pos c]
          have sl := set_last (tx rows.dropLast) (V.str (txt r)) (V.str (txt (r ++ 32 :: v)))
          refine evl_addS (w := v) (evl_addS (w := [32]) (evl_ixL (evl_var rfl) evl_neg1 (SqL.of hl2) ea) evl_c (by simp; omega)) (evl_var rfl) (by simp; omega) _ ?_
          refine ⟨_, rfl, _, rfl, l, _, _, _, rfl, rfl, hl2, sl.1, ?_⟩
          refine ⟨_, rfl, same_upd S nl, ?_⟩
          rw [upd_same]
          have e2 : r ++ [32] ++ v = r ++ 32 :: v := by simp
          rw [e2, sl.2, tx_snoc]
        · have c : ¬ (r.length : Int) + 1 + v.length ≤ wide := fun z => c (decide_eq_true z)
          rw [if_neg c]
          refine ⟨_, rfl, .inl ⟨rfl, _, SqL.of hl⟩, _, rfl, l, _, _, rfl, rfl, hl, ?_, _, rfl, same_upd S nl, by rw [upd_same, tx_snoc]⟩
          rw [tx_len]
          exact Nat.lt_of_le_of_lt (show rows.length ≤ 1000 by omega) (by decide)
    · rintro σ H2 ⟨o, rfl, S, hl⟩
      rw [tx_len, List.take_length] at hl
      exact ⟨_, rfl, q l H2 S nl hl⟩
end
end JH
set_option Elab.async false
set_option linter.all false
set_option maxRecDepth 100000
set_option maxHeartbeats 1000000
namespace JH
open PySem L2 Lin
def PrAt (H : Hp) (v : V) (p : Int × Nat) : Prop := ∃ a, v = .ref a ∧ H a = some (.tup [.int p.1, .int (p.2 : Nat)])
def PrsAt (H : Hp) : List V → List (Int × Nat) → Prop := Paired (PrAt H)
theorem PrAt.same {H H' : Hp} (S : Same H H') {v : V} {p : Int × Nat} (h : PrAt H v p) : PrAt H' v p := let ⟨a, e, z⟩ := h; ⟨a, e, S _ _ z⟩
theorem PrsAt.imp {H H' : Hp} (f : ∀ v p, PrAt H v p → PrAt H' v p) : ∀ {vs : List V} {ps : List (Int × Nat)}, PrsAt H vs ps → PrsAt H' vs ps
  | _, _, .nil => .nil
  | _, _, .cons h t => .cons (f _ _ h) (PrsAt.imp f t)
theorem PrsAt.same {H H' : Hp} (S : Same H H') {vs : List V} {ps : List (Int × Nat)} (h : PrsAt H vs ps) : PrsAt H' vs ps := PrsAt.imp (fun _ _ => PrAt.same S) h
theorem PrsAt.len {H : Hp} {vs : List V} {ps : List (Int × Nat)} (h : PrsAt H vs ps) : vs.length = ps.length := Paired.length h
theorem PrAt.upd {H : Hp} {l : Addr} {xs : List V} {o' : HO} (hl : H l = some (.lst xs)) {v : V} {p : Int × Nat} (h : PrAt H v p) : PrAt (upd H l o') v p := by
  obtain ⟨a, e, z⟩ := h
  exact ⟨a, e, by rw [upd_ne (ne_of z hl (by intro q; cases q))]; exact z⟩
theorem PrsAt.upd {H : Hp} {l : Addr} {xs : List V} {o' : HO} (hl : H l = some (.lst xs)) {vs : List V} {ps : List (Int × Nat)} (h : PrsAt H vs ps) : PrsAt (upd H l o') vs ps := PrsAt.imp (fun _ _ => PrAt.upd hl) h
theorem PrsAt.snoc {H : Hp} {vs : List V} {ps : List (Int × Nat)} {v : V} {p : Int × Nat} (h : PrsAt H vs ps) (r : PrAt H v p) : PrsAt H (vs ++ [v]) (ps ++ [p]) := Paired.snoc h r
theorem ok_word_free {u : W} (h : okW u) : u ≠ [] ∧ 32 ∉ u := by
  refine ⟨fun z => ?_, fun z => ?_⟩
  · have := h.1
    rw [z] at this
    simp at this
  · have := (h.2.2 32 z).1
    omega
theorem mem_flat_len {gs : List (List W)} : ∀ {g : List W}, g ∈ gs → g.length ≤ gs.flatten.length := by
  induction gs with
  | nil => intro g h; exact (List.not_mem_nil h).elim
  | cons a r ih =>
    intro g h
    rw [List.flatten_cons, List.length_append]
    rcases List.mem_cons.mp h with e | e
    · rw [e]; omega
    · have := ih e
      omega
theorem cutV_drop (xs : List V) (k : Nat) (h : k ≤ xs.length) : cutV xs (some (k : Int)) none = xs.drop k := by
  unfold cutV
  rw [HT.sIx_none, HT.sIx_nat, Nat.min_eq_left h]
  exact List.take_of_length_le (by rw [List.length_drop]; exact Nat.le_refl _)
def spWith : Sp := fun vs H Q _ => ∃ g h : List W, vs = [.str (txt (glue g)), .str (txt (glue h))] ∧ h ≠ [] ∧ (∀ u ∈ h, okW u) ∧ (glue g).length ≤ 100000 ∧ (glue h).length ≤ 100000 ∧ h.length ≤ 1000 ∧ ∀ H', Same H H' → Q (.int (val g h)) H'
def spNext : Sp := fun vs H Q _ => ∃ (a : Addr) (gs : List (List W)), vs = [.ref a] ∧ H a = some (.lst (tx (gs.map glue))) ∧ (∀ g ∈ gs, g ≠ [] ∧ (∀ u ∈ g, okW u) ∧ (glue g).length ≤ 100000 ∧ g.length ≤ 1000) ∧ 2 ≤ gs.length ∧ gs.length ≤ 1000 ∧
  ∀ M, M ∈ vals gs → (∀ z ∈ vals gs, M ≤ z) → ∀ H', Same H H' → Q (.int M) H'
def spStairs (C : Addr) : Sp := fun vs H Q E => ∃ x : V, vs = [x] ∧ ((∃ (a : Addr) (ws : List W), x = .ref a ∧ H a = some (.lst (tx ws)) ∧ (∀ w ∈ ws, okW w) ∧ ws.length ≤ 1000 ∧
  ∀ (l : Addr) (us : List V) (H' : Hp), Same H H' → H l = none → H' l = some (.lst us) → PrsAt H' us (stairs ws) → Q (.ref l) H') ∨ (Bad H x ∧ ∀ H', Same H H' → E (.ref C) none H'))
section
variable {P : Program} {w : World} {K : PySem.W.Frag} {mg : Str → Option Value} {base : Heap}
theorem scWith : FnScope ["row", "behind"] ["row", "behind"] (defScope sWith) := ⟨rfl, rfl, rfl, by decide +kernel, rfl, by decide +kernel, by decide +kernel⟩
theorem ok_with {f : Addr} {fd : FuncData} (F : Fun K "with_next_word" "with_next_word" sWith f fd) (tl : mg "len" = none) : FnOk P w K mg base CX0 1 f fd ["row", "behind"] spWith := by
  refine F.ok scWith (fun vs H Q E h => ?_) (fun cdv A outer s H vs Q E hr h => ?_)
  · obtain ⟨g, h, rfl, _⟩ := h
    rfl
  · obtain ⟨g, h, rfl, hn, hw, lg, lh, nh, q⟩ := h
    refine ⟨_, (pss_one (ps_ret (pe_op op_add (pe_op op_add (pe_callB call_len_str (by rfl) tl PySem.boot_len (pa_cons (pv 0) pa_nil)) pe_int) (pe_callB call_len_str (by rfl) tl PySem.boot_len (pa_cons (pe_ix ix_list (pe_bm PySem.F.plainAttrs_str PySem.F.slot_str_split PySem.F.type_str_split mt_splitB (pv 1) (by exact (pa_cons pe_str pa_nil))) pe_int (fun _ _ => rfl)) pa_nil))))), ?_⟩
    refine ⟨_, rfl, _, rfl, (by rw [txt_len]; exact Nat.le_trans lg (by decide)), _, _, rfl, rfl, _, rfl, rfl, h, rfl, rfl, hn, (fun u hu => ok_word_free (hw u hu)), by omega, by omega, fun l nl => ?_⟩
    obtain ⟨u, r, rfl⟩ : ∃ u r, h = u :: r := by
      cases h with
      | nil => exact absurd rfl hn
      | cons u r => exact ⟨u, r, rfl⟩
    have hu := hw u List.mem_cons_self
    refine ⟨l, _, _, V.str (txt u), rfl, rfl, SqL.of upd_same, (by exact atI_nat (xs := (u :: r).map fun w => V.str (txt w)) (j := 0) rfl), _, rfl, (by rw [txt_len]; exact Nat.le_trans hu.2.1 (by decide)), _, _, rfl, rfl, ?_⟩
    have := q _ (same_new (o := .lst ((u :: r).map fun w => V.str (txt w))) nl)
    rw [txt_len, txt_len]
    exact this
theorem scNext : FnScope ["rows"] ["rows"] (defScope sNextW) := ⟨rfl, rfl, rfl, by decide +kernel, rfl, by decide +kernel, by decide +kernel⟩
theorem ok_next {f fW : Addr} {fd fdW : FuncData} (F : Fun K "next_width" "next_width" sNextW f fd) (tmin : mg "min" = none) (tzip : mg "zip" = none) (Wn : Callee P w K mg base CX0 1 "with_next_word" fW fdW ["row", "behind"] spWith) : FnOk P w K mg base CX0 2 f fd ["rows"] spNext := by
  refine F.ok scNext (fun vs H Q E h => ?_) (fun cdv A outer s H vs Q E hr h => ?_)
  · obtain ⟨a, gs, rfl, _⟩ := h
    rfl
  · obtain ⟨a, gs, rfl, ha, hg, n2, n3, q⟩ := h
    refine ⟨_, (pss_one (ps_ret (pe_callB (call_minL rfl) (by rfl) tmin PyProof.Rows.boot_min (pa_cons (pe_comp (Nc := ["row", "behind"]) (ix := [none, none]) rfl rfl (by exact (pi_zip rfl tzip (pa_cons (pv 0) (pa_cons (pe_slice sl_list (pv 0) (po_some pe_int) po_none) pa_nil)))) (fun _ _ _ _ _ => (pg_tupK (K := K) (n := 2) rfl rfl (pgs_cons (pg_name (i := 0) (by show (["row", "behind"] : List Str).Nodup; decide +kernel) rfl (Or.inl rfl)) (pgs_cons (pg_name (i := 1) (by show (["row", "behind"] : List Str).Nodup; decide +kernel) rfl (Or.inl rfl)) pgs_nil)))) (fun _ _ _ _ _ => pts_nil) (fun _ _ _ _ _ => (pe_call Wn.ok hr rfl Wn.bound Wn.kp Wn.bd .nil pass0 (pa_cons (pv 0) (pa_cons (pv 1) pa_nil))))) pa_nil)))), ?_⟩
    refine ⟨_, rfl, _, rfl, _, rfl, a, _, rfl, SqL.of ha, fun pc nc => ?_⟩
    have Sc := same_new (o := .lst (cutV (tx (gs.map glue)) (some 1) none)) nc
    have lgs : (tx (gs.map glue)).length = gs.length := by rw [tx_len, List.length_map]
    have hpc : (upd H pc (.lst (cutV (tx (gs.map glue)) (some 1) none))) pc = some (.lst ((tx (gs.map glue)).drop 1)) := by
      rw [upd_same]
      exact congrArg (fun z => some (HO.lst z)) (cutV_drop _ 1 (by omega))
    have ha2 := Sc _ _ ha
    generalize upd H pc (.lst (cutV (tx (gs.map glue)) (some 1) none)) = H1 at Sc hpc ha2
    have lm : min (tx (gs.map glue)).length ((tx (gs.map glue)).drop 1).length = gs.length - 1 := by
      rw [List.length_drop, lgs]
      omega
    refine ⟨a, pc, rfl, ⟨_, SqL.of ha2⟩, ⟨_, SqL.of hpc⟩, cmp_zip (K := K) (a := a) (b := pc) (xs := tx (gs.map glue)) (ys := (tx (gs.map glue)).drop 1) (fun i us σ H' => us = ((vals gs).take i).map V.int ∧ Same H1 H' ∧ ∃ o1 o2, σ = [o1, o2])
      ⟨rfl, Same.refl _, none, none, rfl⟩ (fun i us σ H' hi ⟨e, S, _⟩ => ⟨by rw [e, List.length_map, List.length_take, vals_len]; exact Nat.le_trans (show _ ≤ 1000 by omega) (by decide), SqL.of (S _ _ ha2), SqL.of (S _ _ hpc)⟩) ?_ ?_⟩
    · rintro us σ H' ⟨e, S, _⟩ l nl
      rw [lm, ← vals_len gs, List.take_length] at e
      subst e
      refine ⟨l, vals gs, rfl, SqL.of upd_same, by rw [vals_len]; omega, fun M hM hle => ?_⟩
      exact q M hM hle _ (Sc.trans (S.trans (same_new nl)))
    · rintro i x y us σ H' p hx hy ⟨e, S, o1, o2, rfl⟩ hn
      subst e
      obtain ⟨z1, hz1, rfl⟩ := tx_get' hx
      rw [List.getElem?_drop] at hy
      obtain ⟨z2, hz2, rfl⟩ := tx_get' hy
      rw [List.getElem?_map] at hz1 hz2
      obtain ⟨g, eg, rfl⟩ : ∃ g, gs[i]? = some g ∧ z1 = glue g := by
        cases e : gs[i]? with
        | none => rw [e] at hz1; cases hz1
        | some g => rw [e] at hz1; cases hz1; exact ⟨g, rfl, rfl⟩
      obtain ⟨h, eh, rfl⟩ : ∃ h, gs[i + 1]? = some h ∧ z2 = glue h := by
        rw [Nat.add_comm 1 i] at hz2
        cases e : gs[i + 1]? with
        | none => rw [e] at hz2; cases hz2
        | some g => rw [e] at hz2; cases hz2; exact ⟨g, rfl, rfl⟩
      have ev := vals_get eg eh
      obtain ⟨hil, ev'⟩ := List.getElem?_eq_some_iff.mp ev
      have G := hg g (List.mem_of_getElem? eg)
      have Hh := hg h (List.mem_of_getElem? eh)
      have Sp := same_new (o := .tup [V.str (txt (glue g)), V.str (txt (glue h))]) hn
      refine ⟨p, _, rfl, SqT.of upd_same, rfl, _, _, rfl, _, _, rfl, rfl, ?_⟩
      dsimp only [tYes]
      refine iteT ?_
      refine ⟨_, rfl, _, rfl, g, h, rfl, Hh.1, Hh.2.1, G.2.2.1, Hh.2.2.1, Hh.2.2.2, fun H2 S2 => ⟨?_, S.trans (Sp.trans S2), _, _, rfl⟩⟩
      rw [← List.take_append_getElem hil, List.map_append, ev']
      rfl
theorem scStairs : FnScope ["words", "wide", "rows", "stairs", "fewer"] ["words"] (defScope sStairs) := ⟨rfl, rfl, rfl, by decide +kernel, rfl, by decide +kernel, by decide +kernel⟩
theorem ok_stairs {f fR fT fN C : Addr} {fd fdR fdT fdN : FuncData} (F : Fun K "text_stairs" "text_stairs" sStairs f fd) (tl : mg "len" = none) (tmax : mg "max" = none) (Re : Callee P w K mg base (CXE P w) 4 "refuse_no_words" fR fdR ["things"] (spRefuse C))
    (Ta : Callee P w K mg base CX0 1 "taken" fT fdT ["words", "wide"] spTaken) (Nw : Callee P w K mg base CX0 2 "next_width" fN fdN ["rows"] spNext) : FnOk P w K mg base (CXE P w) 5 f fd ["words"] (spStairs C) := by
  refine F.okE scStairs (fun vs H Q E h => ?_) (fun cdv A outer s H vs Q E hr hh h => ?_)
  · obtain ⟨x, rfl, _⟩ := h
    rfl
  · obtain ⟨x, rfl, h⟩ := h
    refine ⟨_, (pss_cons (ps_expr (pe_call Re.ok hr rfl Re.bound Re.kp Re.bd .nil passEE (pa_cons (pv 0) pa_nil)))
      (pss_cons (ps_if (pt_not (pt_truth (pv 0) (fun _ => rfl)))
      (pss_one (ps_ret (pe_lst (pa_cons (pe_tup (pa_cons pe_int (pa_cons pe_int pa_nil))) pa_nil))))
      pss_nil)
      (pss_cons (ps_set (i := 1) scStairs.nd rfl (Or.inl rfl) (pe_callB (call_maxL rfl) (by rfl) tmax PyProof.Rows.boot_max (pa_cons (pe_comp (Nc := ["word"]) (ix := [none]) rfl rfl (by refine' pi_list ?zz; case zz => exact (pv 0)) (fun _ _ _ _ _ => (pg_name (i := 0) (by show (["word"] : List Str).Nodup; decide +kernel) rfl (Or.inl rfl))) (fun _ _ _ _ _ => pts_nil) (fun _ _ _ _ _ => (pe_callB call_len_str (by rfl) tl PySem.boot_len (pa_cons (pv 0) pa_nil)))) pa_nil)))
      (pss_cons (ps_set (i := 2) scStairs.nd rfl (Or.inl rfl) (pe_call Ta.ok (hr.mono (show 1 ≤ 4 by decide)) rfl Ta.bound Ta.kp Ta.bd .nil pass0 (pa_cons (pv 0) (pa_cons (pv 1) pa_nil))))
      (pss_cons (ps_set (i := 3) scStairs.nd rfl (Or.inl rfl) (pe_lst (pa_cons (pe_tup (pa_cons (pv 1) (pa_cons (pe_callB call_len_seq (by rfl) tl PySem.boot_len (pa_cons (pv 2) pa_nil)) pa_nil))) pa_nil)))
      (pss_cons (PS.nox (ps_while PassesOwn.never (pt_cmpR op_gt (pe_callB call_len_seq (by rfl) tl PySem.boot_len (pa_cons (pv 2) pa_nil)) pe_int (nomark _))
      (pss_cons (ps_set (i := 1) scStairs.nd rfl (Or.inl rfl) (pe_call Nw.ok (hr.mono (show 2 ≤ 4 by decide)) rfl Nw.bound Nw.kp Nw.bd .nil pass0 (pa_cons (pv 2) pa_nil)))
        (pss_cons (ps_set (i := 4) scStairs.nd rfl (Or.inl rfl) (pe_call Ta.ok (hr.mono (show 1 ≤ 4 by decide)) rfl Ta.bound Ta.kp Ta.bd .nil pass0 (pa_cons (pv 0) (pa_cons (pv 1) pa_nil))))
        (pss_cons (ps_if (pt_cmpR op_lt (pe_callB call_len_seq (by rfl) tl PySem.boot_len (pa_cons (pv 4) pa_nil)) (pe_callB call_len_seq (by rfl) tl PySem.boot_len (pa_cons (pv 2) pa_nil)) (nomark _))
        (pss_one (ps_expr (pe_bm PySem.F.plainAttrs_list PySem.F.slot_list_append PySem.F.type_list_append mt_append (pv 3) (pa_cons (pe_tup (pa_cons (pv 1) (pa_cons (pe_callB call_len_seq (by rfl) tl PySem.boot_len (pa_cons (pv 4) pa_nil)) pa_nil))) pa_nil))))
        pss_nil)
        (pss_one (ps_set (i := 2) scStairs.nd rfl (Or.inl rfl) (pv 4))))))))
      (pss_one (ps_ret (pv 3))))))))), ?_⟩
    rcases h with ⟨a, ws, rfl, ha, hw, hn, q⟩ | ⟨bad, qe⟩
    case inr => exact ⟨_, rfl, _, rfl, .inr ⟨bad, fun H' S => qe H' S⟩⟩
    refine ⟨_, rfl, _, rfl, .inl ⟨a, ws, rfl, ha, hw, hn, fun H1 S1 => ?_⟩⟩
    have ha1 := S1 _ _ ha
    by_cases h0 : ws = []
    · subst h0
      refine ⟨_, rfl, false, .inl ⟨[], SqL.of ha1, rfl⟩, iteT ?_⟩
      refine ⟨by show 2 ≤ sizeLine; decide, fun p np => ⟨by show 1 ≤ sizeLine; decide, fun l nl => ?_⟩⟩
      have Sp := same_new (o := .tup [.int 1, .int 1]) np
      have Sl := same_new (o := .lst [.ref p]) nl
      refine q l [.ref p] _ (S1.trans (Sp.trans Sl)) ((S1.trans Sp).free nl) upd_same ?_
      show PrsAt _ _ [(1, 1)]
      exact .cons ⟨p, rfl, Sl _ _ upd_same⟩ .nil
    have ht : (!(tx ws).isEmpty) = true := by
      cases ws with
      | nil => exact absurd rfl h0
      | cons a r => rfl
    refine ⟨_, rfl, true, .inl ⟨_, SqL.of ha1, ht.symm⟩, iteF ?_⟩
    have w12 : ∀ u ∈ ws, u.length ≤ 12 := fun u hu => (hw u hu).2.1
    refine ⟨_, rfl, a, rfl, ⟨_, SqL.of ha1⟩, cmp_list (K := K) (a := a) (xs := tx ws) (fun i ys σ H' => ys = ((ws.take i).map fun u => (u.length : Int)).map V.int ∧ H' = H1 ∧ ∃ o, σ = [o]) ⟨rfl, rfl, none, rfl⟩
      (fun i ys σ H' hi ⟨e, e2, _⟩ => ⟨by rw [e, List.length_map, List.length_map, List.length_take]; exact Nat.le_trans (show _ ≤ 1000 by omega) (by decide), by rw [e2]; exact SqL.of ha1⟩) ?_ ?_⟩
    case refine_2 =>
      rintro i x ys σ H' hx ⟨e, rfl, o, rfl⟩
      subst e
      obtain ⟨v, hv, rfl⟩ := tx_get' hx
      obtain ⟨hil, ev⟩ := List.getElem?_eq_some_iff.mp hv
      dsimp only [gName, tYes]
      refine iteT ?_
      refine evl_lenS (evl_var rfl) (Nat.le_trans (w12 v (List.mem_of_getElem? hv)) (by decide)) _ ?_
      refine ⟨?_, rfl, _, rfl⟩
      rw [← List.take_append_getElem hil, ev, List.map_append, List.map_append]
      rfl
    rintro ys σ H' ⟨e, rfl, _⟩ p2 n2
    rw [tx_len, List.take_length] at e
    subst e
    have S2 := same_new (o := .lst ((ws.map fun u => (u.length : Int)).map V.int)) n2
    have hp2 : (upd H' p2 (.lst ((ws.map fun u => (u.length : Int)).map V.int))) p2 = some (.lst ((ws.map fun u => (u.length : Int)).map V.int)) := upd_same
    have S12 := S1.trans S2
    generalize upd H' p2 (.lst ((ws.map fun u => (u.length : Int)).map V.int)) = H2 at S2 hp2 S12
    refine ⟨p2, _, rfl, SqL.of hp2, by rw [List.length_map]; exact List.length_pos_iff.mpr h0, fun M hM1 hM => ?_⟩
    have eM := wid_eq hM1 hM
    subst eM
    have hwl : ∀ u ∈ ws, (u.length : Int) ≤ (wid ws : Int) := fun u hu => Int.ofNat_le.mpr (wid_le hu)
    refine ⟨_, rfl, _, rfl, a, ws, wid ws, rfl, S12 _ _ ha, hw, hn, fun lr H3 S3 _ hlr => ?_⟩
    have S13 := S12.trans S3
    refine ⟨_, rfl, _, rfl, _, _, rfl, .inl (SqL.of hlr), by show 2 ≤ sizeLine; decide, fun p np => ⟨by show 1 ≤ sizeLine; decide, fun ls nls => ?_⟩⟩
    have Sp := same_new (o := .tup [.int (wid ws), .int ((tx (taken (wid ws) ws)).length : Nat)]) np
    have Sl := same_new (o := .lst [.ref p]) nls
    have Spl := Sp.trans Sl
    have fls : H ls = none := (S13.trans Sp).free nls
    have nlr : lr ≠ ls := ne_of_none (Sp _ _ hlr) nls
    have hlr4 := Spl _ _ hlr
    have S4 := S13.trans Spl
    have hls : (upd (upd H3 p (.tup [.int (wid ws), .int ((tx (taken (wid ws) ws)).length : Nat)])) ls (.lst [.ref p])) ls = some (.lst [.ref p]) := upd_same
    have hP : PrsAt (upd (upd H3 p (.tup [.int (wid ws), .int ((tx (taken (wid ws) ws)).length : Nat)])) ls (.lst [.ref p])) [.ref p] (falls (cnt ws) (wid ws) ((wid ws : Int) - wid ws).toNat) := by
      rw [Int.sub_self]
      refine .cons ⟨p, rfl, ?_⟩ .nil
      rw [Sl _ _ upd_same, tx_len, cnt_taken]
    generalize upd (upd H3 p (.tup [.int (wid ws), .int ((tx (taken (wid ws) ws)).length : Nat)])) ls (.lst [.ref p]) = H4 at hlr4 S4 hls hP
    clear Sp Sl Spl np nls S3 hlr S13 S12 hp2 S2 n2
    have hT := wid_total h0
    refine run_seq ?_
    refine while_n (fun m σ H5 => ∃ (wd : Int) (lr : Addr) (us : List V) (o4 : Option V), m = (total ws - wd).toNat ∧ (wid ws : Int) ≤ wd ∧ wd ≤ total ws ∧ σ = [some (.ref a), some (.int wd), some (.ref lr), some (.ref ls), o4] ∧ Same H H5 ∧ H5 lr = some (.lst (tx (taken wd ws))) ∧ lr ≠ ls ∧
        H5 ls = some (.lst us) ∧ PrsAt H5 us (falls (cnt ws) (wid ws) (wd - wid ws).toNat) ∧ us.length ≤ 14000) _ ⟨(wid ws : Int), lr, [.ref p], none, rfl, Int.le_refl _, hT, rfl, S4, hlr4, nlr, hls, hP, by show 1 ≤ 14000; decide⟩ ?_
    clear hlr4 S4 hls hP nlr
    rintro m σ H5 ⟨wd, lr, us, o4, rfl, h1, h2, rfl, S5, hlr, nlr, hls, hP, ulen⟩
    have ct := cnt_taken ws wd
    refine ⟨(1 : Int) < ((tx (taken wd ws)).length : Nat), inferInstance, tst_of (evl_I0 (evl_lenL (evl_var rfl) (SqL.of hlr)) evl_c), fun c => ?_, fun c => ?_⟩
    · rw [tx_len, ct] at c
      have c1 : 1 < cnt ws wd := by omega
      have hwd : ∀ u ∈ ws, (u.length : Int) ≤ wd := fun u hu => Int.le_trans (hwl u hu) h1
      obtain ⟨z0, hz0, hz1⟩ := small_val h2 c1
      have bt := taken_bound wd ws w12
      have gl := grp_len wd ws
      have gg := grp_glue wd ws
      have gf := grp_flat wd ws
      have gn := (grp_ne wd ws).1
      have hlr' : H5 lr = some (.lst (tx ((grp wd ws).map glue))) := by rw [gg]; exact hlr
      refine ⟨_, rfl, lr, grp wd ws, rfl, hlr', fun g hg => ⟨gn g hg, fun u hu => hw u ?_, ?_, ?_⟩, by omega, ?_, fun M hM hle H6 S6 => ?_⟩
      · rw [← gf]
        exact List.mem_flatten.mpr ⟨g, hg, hu⟩
      · have : glue g ∈ taken wd ws := by rw [← gg]; exact List.mem_map.mpr ⟨g, hg, rfl⟩
        have := bt _ this
        omega
      · have := mem_flat_len hg
        rw [gf] at this
        omega
      · rw [gl]
        exact Nat.le_trans (taken_len_le wd ws) hn
      have hMw := vals_over wd ws M hM
      have hMT : M ≤ total ws := Int.le_trans (hle z0 hz0) hz1
      have jump := falls_jump (ws := ws) (lo := wid ws) h1 hMw fun v a1 a2 => step_stay (M := M) hle a1 a2
      have S56 := S5.trans S6
      refine ⟨_, rfl, _, rfl, a, ws, M, rfl, S56 _ _ ha, hw, hn, fun lf H7 S7 nlf hlf => ?_⟩
      have S67 := S6.trans S7
      have hls7 := S67 _ _ hls
      have hlr7 := S67 _ _ hlr
      have hP7 := hP.same S67
      have S57 := S5.trans S67
      have nlf2 : lf ≠ ls := fun z => by rw [z] at nlf; rw [S6 _ _ hls] at nlf; cases nlf
      have cf := cnt_taken ws M
      try dsimp only
      refine seq_key (R := fun σ H8 => ∃ us : List V, σ = [some (.ref a), some (.int M), some (.ref lr), some (.ref ls), some (.ref lf)] ∧ Same H H8 ∧ H8 lf = some (.lst (tx (taken M ws))) ∧ H8 ls = some (.lst us) ∧ PrsAt H8 us (falls (cnt ws) (wid ws) (M - wid ws).toNat) ∧ us.length ≤ 14000) ?_ (fun k => ?_)
      case refine_1 =>
        rintro σ H8 ⟨us, rfl, S8, hlf8, hls8, hP8, ul8⟩
        refine ⟨_, rfl, (total ws - M).toNat, by omega, M, lf, us, _, rfl, by omega, hMT, rfl, S8, hlf8, nlf2, hls8, hP8, ul8⟩
      refine tst_if (p := ((tx (taken M ws)).length : Int) < ((tx (taken wd ws)).length : Nat)) (tst_of (evl_I0 (evl_lenL (evl_var rfl) (SqL.of hlf)) (evl_lenL (evl_var rfl) (SqL.of hlr7)))) (fun c2 => ?_) (fun c2 => ?_)
      · rw [tx_len, tx_len, ct, cf] at c2
        rw [if_pos (by omega)] at jump
        refine ⟨_, rfl, .inl ⟨rfl, _, SqL.of hls7⟩, _, rfl, _, rfl, _, _, rfl, .inl (SqL.of hlf), by show 2 ≤ sizeLine; decide, fun p np => ?_⟩
        have Sp := same_new (o := .tup [.int M, .int ((tx (taken M ws)).length : Nat)]) np
        have hls8 := Sp _ _ hls7
        have ul : us.length = (falls (cnt ws) (wid ws) (wd - wid ws).toNat).length := hP.len
        have fl := falls_len (c := cnt ws) (lo := (wid ws : Int)) (wd - wid ws).toNat
        have tb : total ws ≤ 13000 := by
          have e := sum_pos ws
          have : (ws.map fun u => (u.length : Int)).sum ≤ 12 * ws.length := by
            have : ∀ l : List W, (∀ u ∈ l, u.length ≤ 12) → (l.map fun u => (u.length : Int)).sum ≤ 12 * l.length := fun l => by
              induction l with
              | nil => intro _; exact Int.le_refl _
              | cons x r ih =>
                intro hx
                have i1 := ih fun u hu => hx u (List.mem_cons_of_mem _ hu)
                have i2 := hx x List.mem_cons_self
                rw [List.map_cons, List.sum_cons, List.length_cons]
                omega
            exact this ws w12
          unfold total
          omega
        refine ⟨ls, _, _, rfl, rfl, hls8, by rw [show us.length = _ from ul]; exact Nat.lt_of_le_of_lt (show _ ≤ 14000 by omega) (by decide), ?_⟩
        refine k _ _ ⟨us ++ [.ref p], rfl, same_upd (S57.trans Sp) fls, ?_, upd_same, ?_, ?_⟩
        · rw [upd_ne nlf2]
          exact Sp _ _ hlf
        · rw [jump]
          refine ((hP7.same Sp).upd hls8).snoc ⟨p, rfl, ?_⟩
          rw [upd_ne (fun z => by rw [z, hls7] at np; cases np), upd_same, tx_len, cf]
        · rw [List.length_append, List.length_singleton, ul]
          omega
      · rw [tx_len, tx_len, ct, cf] at c2
        rw [if_neg (by omega)] at jump
        refine run_next ?_
        exact k _ _ ⟨us, rfl, S57, hlf, hls7, by rw [jump]; exact hP7, ulen⟩
    · rw [tx_len, ct] at c
      refine ⟨_, rfl, q ls us H5 S5 fls hls ?_⟩
      unfold stairs
      rw [if_neg h0, falls_end h0 hwl h1 h2 (by omega)]
      exact hP
end
end JH
set_option Elab.async false
set_option linter.all false
set_option maxRecDepth 100000
namespace Tre
open PySem L2
inductive T where
  | non | bl (b : Bool) | int (i : Int) | str (x : Str) | tup (ts : List T) | lst | dic
mutual
def sz : T → Nat
  | .tup ts => 1 + szL ts
  | .non => 1
  | .bl _ => 1
  | .int _ => 1
  | .str _ => 1
  | .lst => 1
  | .dic => 1
def szL : List T → Nat
  | [] => 0
  | t :: r => sz t + szL r
end
theorem sz_pos : ∀ t : T, 0 < sz t
  | .tup ts => by unfold sz; omega
  | .non => by unfold sz; omega
  | .bl _ => by unfold sz; omega
  | .int _ => by unfold sz; omega
  | .str _ => by unfold sz; omega
  | .lst => by unfold sz; omega
  | .dic => by unfold sz; omega
theorem szL_app : ∀ (a b : List T), szL (a ++ b) = szL a + szL b
  | [], b => by show szL b = szL [] + szL b; unfold szL; omega
  | t :: a, b => by
    show sz t + szL (a ++ b) = szL (t :: a) + szL b
    rw [szL_app a b, szL]
    omega
theorem sz_node (k : Str) (ps : List T) : sz (.tup [.str k, .tup ps]) = 3 + szL ps := by
  simp only [sz, szL]
  omega
def bar : Str := "|"
def dash : Str := "-"
def isK (k : Str) : Prop := k = bar ∨ k = dash
def HasK (t : T) (k : Str) : Prop := ∃ q, t = .tup [.str k, q]
mutual
inductive Good : T → List Int → Prop where
  | leaf (i : Int) : Good (.int i) [i]
  | node {k : Str} {ps : List T} {nss : List (List Int)} (hk : isK k) (h2 : 2 ≤ ps.length) (hn : ∀ p ∈ ps, ¬ HasK p k) (h : GoodL ps nss) : Good (.tup [.str k, .tup ps]) nss.flatten
inductive GoodL : List T → List (List Int) → Prop where
  | nil : GoodL [] []
  | cons {t : T} {ns : List Int} {ts : List T} {nss : List (List Int)} (h : Good t ns) (r : GoodL ts nss) : GoodL (t :: ts) (ns :: nss)
end
theorem GoodL.app : ∀ {a b : List T} {x y : List (List Int)}, GoodL a x → GoodL b y → GoodL (a ++ b) (x ++ y)
  | _, _, _, _, .nil, s => s
  | _, _, _, _, .cons h r, s => .cons h (GoodL.app r s)
theorem GoodL.split : ∀ {a b : List T} {z : List (List Int)}, GoodL (a ++ b) z → ∃ x y, z = x ++ y ∧ GoodL a x ∧ GoodL b y
  | [], b, z, h => ⟨[], z, rfl, .nil, h⟩
  | t :: a, b, _, .cons h r => by
    obtain ⟨x, y, e, h1, h2⟩ := GoodL.split (a := a) (b := b) r
    exact ⟨_ :: x, y, by rw [e]; rfl, .cons h h1, h2⟩
theorem GoodL.one {t : T} {z : List (List Int)} (h : GoodL [t] z) : ∃ ns, z = [ns] ∧ Good t ns := by
  cases h with
  | cons h r =>
    cases r
    exact ⟨_, rfl, h⟩
theorem GoodL.len : ∀ {a : List T} {x : List (List Int)}, GoodL a x → x.length = a.length
  | _, _, .nil => rfl
  | _, _, .cons _ r => by rw [List.length_cons, List.length_cons, r.len]
mutual
theorem Good.ne : ∀ {t : T} {ns : List Int}, Good t ns → 0 < ns.length
  | _, _, .leaf i => Nat.succ_pos _
  | _, _, .node (ps := ps) (nss := nss) hk h2 hn h => Nat.lt_of_lt_of_le (by omega) (GoodL.le h)
theorem GoodL.le : ∀ {ts : List T} {nss : List (List Int)}, GoodL ts nss → ts.length ≤ nss.flatten.length
  | _, _, .nil => Nat.le_refl _
  | _, _, .cons h r => by
    rw [List.flatten_cons, List.length_append, List.length_cons]
    have := h.ne
    have := GoodL.le r
    omega
end
mutual
theorem Good.uniq : ∀ {t : T} {a b : List Int}, Good t a → Good t b → a = b
  | _, _, _, .leaf i, h' => by cases h'; rfl
  | _, _, _, .node _ _ _ h, h' => by
    cases h' with
    | node _ _ _ h2 => rw [GoodL.uniq h h2]
theorem GoodL.uniq : ∀ {t : List T} {a b : List (List Int)}, GoodL t a → GoodL t b → a = b
  | _, _, _, .nil, h' => by cases h'; rfl
  | _, _, _, .cons h r, h' => by
    cases h' with
    | cons h2 r2 => rw [Good.uniq h h2, GoodL.uniq r r2]
end
structure Rel (t : T) (ahead : List T) (ns : List Int) : Prop where
  fw : ∀ x, Good t x → ∃ z, GoodL ahead z ∧ x.Perm (ns ++ z.flatten)
  bw : ∀ z, GoodL ahead z → ∃ x, Good t x ∧ x.Perm (ns ++ z.flatten)
theorem Rel.start (t : T) : Rel t [t] [] :=
  ⟨fun x h => ⟨[x], .cons h .nil, by simp⟩, fun z h => by
    obtain ⟨ns, rfl, h2⟩ := h.one
    exact ⟨ns, h2, by simp⟩⟩
theorem Rel.leaf {t : T} {a : List T} {ns : List Int} {i : Int} (R : Rel t (a ++ [.int i]) ns) : Rel t a (ns ++ [i]) := by
  refine ⟨fun x h => ?_, fun z h => ?_⟩
  · obtain ⟨z, hz, p⟩ := R.fw x h
    obtain ⟨u, v, rfl, h1, h2⟩ := hz.split
    obtain ⟨m, rfl, h3⟩ := h2.one
    cases h3
    refine ⟨u, h1, p.trans ?_⟩
    rw [List.flatten_append, List.append_assoc]
    refine List.Perm.append_left ns ?_
    show (u.flatten ++ ([i] ++ [])).Perm ([i] ++ u.flatten)
    rw [List.append_nil]
    exact List.perm_append_comm
  · obtain ⟨x, h1, p⟩ := R.bw (z ++ [[i]]) (h.app (.cons (.leaf i) .nil))
    refine ⟨x, h1, p.trans ?_⟩
    rw [List.flatten_append, List.append_assoc]
    refine List.Perm.append_left ns ?_
    show (z.flatten ++ ([i] ++ [])).Perm ([i] ++ z.flatten)
    rw [List.append_nil]
    exact List.perm_append_comm
theorem Rel.node {t : T} {a ps : List T} {ns : List Int} {k : Str} (R : Rel t (a ++ [.tup [.str k, .tup ps]]) ns) (hk : isK k) (h2 : 2 ≤ ps.length) (hn : ∀ p ∈ ps, ¬ HasK p k) : Rel t (a ++ ps) ns := by
  refine ⟨fun x h => ?_, fun z h => ?_⟩
  · obtain ⟨z, hz, p⟩ := R.fw x h
    obtain ⟨u, v, rfl, h1, h3⟩ := hz.split
    obtain ⟨m, rfl, h4⟩ := h3.one
    cases h4 with
    | node _ _ _ h5 => exact ⟨_, h1.app h5, by simpa using p⟩
  · obtain ⟨u, v, rfl, h1, h3⟩ := h.split
    obtain ⟨x, hx, p⟩ := R.bw (u ++ [v.flatten]) (h1.app (.cons (.node hk h2 hn h3) .nil))
    exact ⟨x, hx, by simpa using p⟩
theorem Rel.none {t p : T} {a : List T} {ns : List Int} (R : Rel t (a ++ [p]) ns) (hp : ∀ m, ¬ Good p m) : ∀ x, ¬ Good t x := fun x h => by
  obtain ⟨z, hz, _⟩ := R.fw x h
  obtain ⟨u, v, rfl, h1, h3⟩ := hz.split
  obtain ⟨m, _, h4⟩ := h3.one
  exact hp m h4
theorem Rel.many {t : T} {a : List T} {ns : List Int} (R : Rel t a ns) : ∀ x, Good t x → ns.length + a.length ≤ x.length := fun x h => by
  obtain ⟨z, hz, p⟩ := R.fw x h
  rw [p.length_eq, List.length_append]
  have := hz.le
  omega
theorem Rel.done {t : T} {ns : List Int} (R : Rel t [] ns) : ∃ x, Good t x ∧ x.Perm ns := by
  obtain ⟨x, h, p⟩ := R.bw [] .nil
  exact ⟨x, h, by simpa using p⟩
def up (n : Nat) : List Int := (List.range n).map fun i : Nat => (i : Int)
def IsTree (t : T) : Prop := ∃ x, Good t x ∧ x.length ≤ 24 ∧ x.Perm (up x.length)
theorem up_len (n : Nat) : (up n).length = n := by unfold up; rw [List.length_map, List.length_range]
theorem up_sorted (n : Nat) : (up n).Pairwise (· ≤ ·) := by
  unfold up
  rw [List.pairwise_map]
  exact List.pairwise_lt_range.imp fun h => by omega
theorem sorted_eq {a b : List Int} (p : a.Perm b) (ha : a.Pairwise (· ≤ ·)) (hb : b.Pairwise (· ≤ ·)) : a = b := p.eq_of_pairwise (fun x y _ _ h1 h2 => Int.le_antisymm h1 h2) ha hb
def Tells (t : T) (r : List Int) : Prop := (∃ x, Good t x ∧ x.length ≤ 24 ∧ r.Perm x) ∨ (r = [] ∧ ∀ x, Good t x → 24 < x.length)
theorem Tells.tree {t : T} {r ms : List Int} (h : Tells t r) (p : ms.Perm r) (s : ms.Pairwise (· ≤ ·)) : (0 < r.length ∧ ms = up r.length) ↔ IsTree t := by
  rcases h with ⟨x, g, l, q⟩ | ⟨e, no⟩
  · constructor
    · rintro ⟨_, e⟩
      refine ⟨x, g, l, ?_⟩
      rw [← q.length_eq, ← e]
      exact (p.trans q).symm
    · rintro ⟨y, gy, ly, py⟩
      have l0 := g.ne
      refine ⟨by rw [q.length_eq]; exact l0, ?_⟩
      have e : y = x := Good.uniq gy g
      subst e
      refine sorted_eq (p.trans (q.trans ?_)) s (up_sorted _)
      rw [q.length_eq]
      exact py
  · subst e
    constructor
    · rintro ⟨h, _⟩
      exact absurd h (Nat.lt_irrefl _)
    · rintro ⟨y, gy, ly, _⟩
      have := no y gy
      omega
end Tre
set_option Elab.async false
set_option linter.all false
set_option maxRecDepth 100000
namespace PySem
open AutoSeq1
set_option maxRecDepth 100000 in
theorem list_extend_tupleG (l : Addr) (items : Array Value) (n : Nat) (b : Addr) (items2 : Array Value) (n2 : Nat) (dd : Option Addr) (sl : Array (Option Value)) (hs0 : ¬(!items.isEmpty && Builtin.List.listTooLong (items.size + items2.size)) = true) (hs1 : items.size ≤ sizeLine) (hs2 : items.size + items2.size ≤ sizeLine + 1) :
    Meets (Builtin.«list.extend» ⟨[.ref l, .ref b], []⟩) (fun _ R s => s.heap.get? l = some { cls := .type "list", dict := none, data := .seq items n, slots := #[] } ∧ s.heap.get? b = some { cls := .type "tuple", dict := dd, data := .seq items2 n2, slots := sl } ∧ R (.ok (.ret Value.none)) { s with heap := s.heap.update l (Obj.mapSeq fun x => x ++ items2), toks := s.toks }) :=
  .of_wp fun prog w A R s h => by
    obtain ⟨hp, g, d, tk, os⟩ := s; obtain ⟨hl, hb, h⟩ := h; have f1 := idx_int; have f2 := sub_tuple_tuple; have f3 := sub_list_list; have f4 := sub_tuple_list; have f5 := sub_list_tuple;
    have hz' : (items ++ items2).size ≤ sizeLine + 1 := by rw [Array.size_append]; exact hs2
    wp_walk using (wpAny_updateSeq hl rfl (hz := hs1) (_hz' := hz')), wpAny_loadPart' hl, wpAny_loadPart' hb; exact ⟨_, rfl, h⟩
end PySem
namespace L2
open PySem PySem.Spec PyProof.Rows
section
variable {X : Cx}
theorem mt_extendT : MtM X "list.extend" (fun x vs H Q => ∃ l b xs zs, x = .ref l ∧ vs = [.ref b] ∧ H l = some (.lst xs) ∧ SqT X.K H b zs ∧ xs.length + zs.length ≤ sizeLine ∧ Q .non (upd H l (.lst (xs ++ zs)))) := by
  intro pins s σ H x vs v us Q I rx rv h
  obtain ⟨l, b, xs, zs, rfl, rfl, hH, hB, hz, q⟩ := h
  cases rx
  obtain ⟨u, rfl, ru⟩ := rv.one
  cases ru
  obtain ⟨z, its, n, r, hl, e⟩ := I.lstM hH
  obtain ⟨its2, r2, ⟨⟨cls, dd, data, sl⟩, e2, hc, n2, hd⟩, hz2⟩ := I.tuple hB
  simp only at hc hd
  subst hc hd
  have hl2 := r2.length
  have hsz : its.toArray.size + its2.toArray.size ≤ sizeLine := by rw [List.size_toArray, List.size_toArray]; omega
  have hlong : ¬ (!its.toArray.isEmpty && Builtin.List.listTooLong (its.toArray.size + its2.toArray.size)) = true := by
    rw [notLongL hsz, Bool.and_false]
    exact Bool.false_ne_true
  refine call_meets F.slot_list_extend ⟨_, e, rfl⟩ F.entry_list_extend (F.args_list_extend_2 _ _)
    (list_extend_tupleG l its.toArray n b its2.toArray n2 dd sl hlong (by rw [List.size_toArray]; omega) (by omega)) ⟨e, e2, ?_⟩
  refine ⟨.non, _, I.lset (its' := its ++ its2) hH e (by simp) (r.append r2) ?_, rfl, q⟩
  rw [List.length_append]
  omega
theorem ints_vals : ∀ {ns : List Int} {us : List Value}, Vals (ns.map V.int) us → IntsAre us ns
  | [], _, .nil => .nil
  | n :: ns, _, .cons ⟨t, e⟩ r => by
    subst e
    exact .cons n t (ints_vals r)
theorem vals_intsB : ∀ {ns : List Int} {us : List Value}, IntsAre us ns → Vals (ns.map V.int) us
  | _, _, .nil => .nil
  | _, _, .cons n t r => .cons ⟨t, rfl⟩ (vals_intsB r)
theorem call_sortN : CallR X (.builtin "sorted") (fun xs H Q => ∃ (a : Addr) (ns : List Int), xs = [.ref a] ∧ SqL X.K H a (ns.map V.int) ∧ ns.length < 64 ∧ ∀ (l : Addr) (ms : List Int), H l = none → ms.Perm ns → ms.Pairwise (· ≤ ·) → Q (.ref l) (upd H l (.lst (ms.map V.int)))) := by
  intro pins s σ H xs us Q I r h
  obtain ⟨a, ns, rfl, hq, h64, q⟩ := h
  obtain ⟨u, rfl, ru⟩ := vals1 r
  cases ru
  obtain ⟨its, rv, tp, hz⟩ := I.list hq
  have hl := rv.length
  rw [List.length_map] at hl
  refine sorted_ints tp.isList (ints_vals rv) (by omega) fun out ms hI pm st => ?_
  obtain ⟨e, he⟩ := sortedAll_at s.heap its out
  have ln : (ms.map V.int).length ≤ sizeLine := by rw [List.length_map, pm.length_eq]; exact Nat.le_trans (Nat.le_of_lt h64) (by decide)
  refine ⟨.ref (s.heap.objs.size + 1), _, I.laid (t' := s.toks) (o := .lst (ms.map V.int)) (fun b u e => sortedAll_old e) (Nat.le_succ _) ⟨ln, out.toList, e, vals_intsB hI, ?_⟩, rfl, q _ ms (I.hok.fresh (Nat.le_succ _)) pm st⟩
  rw [he]
end
def ItR (K : PySem.W.Frag) (a : Addr) (n : Nat) : It :=
  ⟨fun i H => i < n ∧ ∃ xs, SqL K H a xs ∧ xs.length = n, fun i H x H' => H' = H ∧ ∀ xs, SqL K H a xs → xs[n - 1 - i]? = some x, fun i H => n ≤ i⟩
theorem turn_rev {P : Program} {w : World} {K : PySem.W.Frag} {tg : Expr} (a it : Addr) (n : Nat) : Turn P w K tg (ItR K a n) [it] it (fun i h => h.IsRevIter it a ((n : Int) - 1 - i) ∧ i ≤ n) where
  mem := by simp
  obj := fun i h st b hb => by
    have e : b = it := by simpa using hb
    subst e
    obtain ⟨⟨o, e, c, d⟩, _⟩ := st
    exact ⟨o, e, fun v z => by rw [d] at z; cases z⟩
  keep := fun i h h' st k => ⟨st.1.at fun o e => k it (by simp) o e, st.2⟩
  item := by
    intro X hP hw hK hc i pins s σ H E I hf st hg
    subst hP hw hK
    obtain ⟨hi, xs, hq, hx⟩ := hg
    obtain ⟨its, rv, p, hz⟩ := I.list hq
    have e1 : xs[n - 1 - i]? = some (xs[n - 1 - i]'(by omega)) := List.getElem?_eq_getElem (by omega)
    obtain ⟨u, hu, ru⟩ := rv.get e1
    obtain ⟨f0, f1, f2, f3, f4, f5⟩ := hf it (by simp)
    have st1 : s.heap.IsRevIter it a ((n - 1 - i : Nat) : Int) := by
      have := st.1
      rwa [show (n : Int) - 1 - i = ((n - 1 - i : Nat) : Int) by omega] at this
    refine wpAny_pyNext_rev_item st1 p.isList (x := u) (by simpa using hu) fun h' st' sb => ?_
    have I1 : Inv X pins σ H { s with heap := h' } := I.turned (t' := s.toks) (fun b o hb e => (sb.2 b hb).trans e) f0 f1 f3 f4 f5
    have st2 : h'.IsRevIter it a ((n : Int) - 1 - ((i + 1 : Nat) : Int)) := by
      rwa [show ((n - 1 - i : Nat) : Int) - 1 = (n : Int) - 1 - ((i + 1 : Nat) : Int) by omega] at st'
    obtain ⟨o, e, c, d⟩ := id st2
    exact ⟨u, rfl, go_of (s := { s with heap := h' }) e c d (by decide) ⟨_, H, I1, ru, ⟨rfl, fun ys hy => by rw [I.list_inj hy hq]; exact e1⟩, ⟨st2, by omega⟩, fun b hb => (hf b hb).1⟩⟩
  done := by
    intro X hP hw hK hc i pins s σ H E I hf st hg
    subst hP hw hK
    have hg : n ≤ i := hg
    obtain ⟨f0, f1, f2, f3, f4, f5⟩ := hf it (by simp)
    have st1 : s.heap.IsRevIter it a (-1) := by
      have := st.1
      rwa [show (n : Int) - 1 - i = -1 by have := st.2; omega] at this
    exact wpAny_pyNext_rev_end (I.ok.hd hc) st1 fun h' eb => ⟨rfl, I.turned (t' := s.toks) (fun b o hb e => eb b o hb e) f0 f1 f3 f4 f5⟩
  self := fun _ _ _ _ _ st h => wpAny_pyIter_revIter st.1 h
def iRev (K : PySem.W.Frag) (ta : TA) : TI := fun σ H R => ta σ H fun vs H1 => ∃ a xs, vs = [.ref a] ∧ SqL K H1 a xs ∧ R (ItR K a xs.length) H1
theorem pi_rev {X : Cx} {tg l : Expr} {ta : TA} {p pos : Pos} (hg : Gl X "reversed") (hm : X.mg "reversed" = none) (ha : PA X [l] ta) (hs : starEach [l] X.env = [(false, eval l X.env)] := by rfl) :
    PI X tg (.Call (.Name "reversed" p) [l] [] pos) (iRev X.K ta) := by
  intro pins s σ H R I h
  refine Call_ (ld_blt I hg hm boot_reversed (PyProof.Rows.callWith_type1 (thn (ha pos pins s σ H _ I h) fun us s1 ⟨vs, H1, I1, r1, q1⟩ => ?_) hs rfl))
  obtain ⟨a, xs, e, hq, q⟩ := q1
  subst e
  cases r1 with
  | cons r rr =>
    cases rr
    cases r
    obtain ⟨its, rv, tp, hz⟩ := I1.list hq
    have hl := rv.length
    refine call_reversed_list tp.isList ?_
    have e0 : ((its.toArray.size : Nat) : Int) - 1 = (xs.length : Int) - 1 - ((0 : Nat) : Int) := by rw [List.size_toArray]; omega
    have st0 : (s1.heap.push (revObj a (((its.toArray.size : Nat) : Int) - 1))).IsRevIter s1.heap.objs.size a ((xs.length : Int) - 1 - ((0 : Nat) : Int)) := ⟨_, Heap.get?_push_size _ rfl, rfl, by rw [e0]; rfl⟩
    refine wpAny_pyIter_revIter st0 ?_
    refine ⟨s1.heap.objs.size, [s1.heap.objs.size], _, _, H1, rfl, I1.kept (t' := s1.toks) fun b o e => Heap.get?_push_of_some _ e, turn_rev a _ xs.length, ⟨st0, Nat.zero_le _⟩, fun b hb => ?_, q⟩
    have e : b = s1.heap.objs.size := by simpa using hb
    subst e
    exact I1.fpOk (Nat.le_refl _) (I1.hok.fresh (Nat.le_refl _))
end L2
set_option Elab.async false
set_option linter.all false
set_option maxRecDepth 100000
set_option maxHeartbeats 4000000
namespace L2
open PySem PySem.Spec PyProof.Rows
section
variable {X : Cx}
def tLR3 (ta : TA) : TE := fun σ H Q => ta σ H fun vs H1 => ∃ n : Nat, vs = [.int n] ∧ n ≤ 1000000 ∧ ∀ l, H1 l = none → Q (.ref l) (upd H1 l (.lst ((List.range n).map fun i : Nat => V.int i)))
theorem vals_items {n : Nat} {its : Array Value} (h : ItemsOf (fun i v => ∃ t, v = Value.int (0 + (i : Int) * 1) t) its n) : Vals ((List.range n).map fun i : Nat => V.int i) its.toList := by
  obtain ⟨h1, h2⟩ := h
  have : ∀ (us : List Value) (k : Nat), (∀ j v, us[j]? = some v → ∃ t, v = Value.int ((k + j : Nat) : Int) t) → Vals ((List.range us.length).map fun i : Nat => V.int ((k + i : Nat) : Int)) us := by
    intro us
    induction us with
    | nil => intro k _; exact .nil
    | cons u us ih =>
      intro k h
      rw [List.length_cons, List.range_succ_eq_map, List.map_cons, List.map_map]
      refine .cons ?_ ?_
      · obtain ⟨t, rfl⟩ := h 0 u rfl
        exact ⟨t, rfl⟩
      · have := ih (k + 1) fun j v e => by
          obtain ⟨t, rfl⟩ := h (j + 1) v (by simpa using e)
          exact ⟨t, by rw [show k + 1 + j = k + (j + 1) by omega]⟩
        have e : ((fun i : Nat => V.int ((k + i : Nat) : Int)) ∘ Nat.succ) = fun i : Nat => V.int ((k + 1 + i : Nat) : Int) := by
          funext i
          show V.int ((k + (i + 1) : Nat) : Int) = V.int ((k + 1 + i : Nat) : Int)
          rw [show k + (i + 1) = k + 1 + i by omega]
        rw [e]
        exact this
  have := this its.toList 0 fun j v e => by
    obtain ⟨t, rfl⟩ := h2 j v (by rw [← Array.getElem?_toList]; exact e)
    exact ⟨t, by simp⟩
  rw [Array.length_toList, h1] at this
  simpa using this
theorem pe_listRange {a : Expr} {ta : TA} {p p2 pos pos2 : Pos} (hc : X.calm = true) (hgl : Gl X "list") (hml : X.mg "list" = none) (hg : Gl X "range") (hm : X.mg "range" = none) (ha : PA X [a] ta) (hs : starEach [a] X.env = [(false, eval a X.env)] := by rfl)
    (hs2 : starEach [.Call (.Name "range" p2) [a] [] pos2] X.env = [(false, eval (.Call (.Name "range" p2) [a] [] pos2) X.env)] := by rfl) : PE X (.Call (.Name "list" p) [.Call (.Name "range" p2) [a] [] pos2] [] pos) (tLR3 ta) := by
  intro pins s σ H Q I h
  refine wpAny_Call_Name_kw (ld_blt I hgl hml boot_list (PyProof.Rows.callWith_type1 ?_ hs2 rfl))
  rw [hs2]
  refine Calls.spliced_cons (Call_ (ld_blt I hg hm boot_range (PyProof.Rows.callWith_type1 (thn (ha pos2 pins s σ H _ I h) fun us s1 ⟨vs, H1, I1, r1, q1⟩ => ?_) hs rfl)))
  obtain ⟨n, e, hn, q⟩ := q1
  subst e
  obtain ⟨u, rfl, t, rfl⟩ := vals1 r1
  refine call_range_1 (Calls.spliced_nil ?_)
  refine call_list_range (n := n) (I1.ok.hd hc) (IsRange.new ..) (small_one (by decide) (by decide) (by omega) (by omega)) (by rw [rangeSize_one]; split <;> omega) (by omega) fun h' tk acc c' kp hl it => ?_
  have I2 : Inv X pins σ H1 { s1 with heap := s1.heap.push { cls := .type "range", data := .fields #[.int 0 s1.toks, .int n t, .int 1 (s1.toks + 1)] }, toks := s1.toks + 1 + 1 } := I1.kept fun b o e => Heap.get?_push_of_some _ e
  refine ⟨.ref _, _, I2.laid (t' := tk) (o := .lst ((List.range n).map fun i : Nat => V.int i)) kp (Nat.le_refl _) ⟨by rw [List.length_map, List.length_range]; exact Nat.le_trans hn (by decide), acc.toList, c', vals_items it, by simpa using hl⟩, rfl, q _ (I2.hok.fresh (Nat.le_refl _))⟩
end
end L2
set_option Elab.async false
set_option linter.all false
set_option maxRecDepth 100000
set_option maxHeartbeats 1000000
namespace JH
open PySem L2 Tre PySem.W
mutual
inductive At (H : Hp) : V → T → Prop where
  | non : At H .non .non
  | bl (b : Bool) : At H (.bl b) (.bl b)
  | int (i : Int) : At H (.int i) (.int i)
  | str (x : Str) : At H (.str x) (.str x)
  | tup {a : Addr} {vs : List V} {ts : List T} (e : H a = some (.tup vs)) (h : AtL H vs ts) : At H (.ref a) (.tup ts)
  | lst {a : Addr} {vs : List V} (e : H a = some (.lst vs)) : At H (.ref a) .lst
  | dic {a : Addr} {kvs : List (Key × V)} (e : H a = some (.dK kvs)) : At H (.ref a) .dic
inductive AtL (H : Hp) : List V → List T → Prop where
  | nil : AtL H [] []
  | cons {v : V} {t : T} {vs : List V} {ts : List T} (h : At H v t) (r : AtL H vs ts) : AtL H (v :: vs) (t :: ts)
end
mutual
theorem At.same {H H' : Hp} (S : Same H H') : ∀ {v : V} {t : T}, At H v t → At H' v t
  | _, _, .non => .non
  | _, _, .bl b => .bl b
  | _, _, .int i => .int i
  | _, _, .str x => .str x
  | _, _, .tup e h => .tup (S _ _ e) (AtL.same S h)
  | _, _, .lst e => .lst (S _ _ e)
  | _, _, .dic e => .dic (S _ _ e)
theorem AtL.same {H H' : Hp} (S : Same H H') : ∀ {vs : List V} {ts : List T}, AtL H vs ts → AtL H' vs ts
  | _, _, .nil => .nil
  | _, _, .cons h r => .cons (At.same S h) (AtL.same S r)
end
theorem AtL.len {H : Hp} : ∀ {vs : List V} {ts : List T}, AtL H vs ts → vs.length = ts.length
  | _, _, .nil => rfl
  | _, _, .cons _ r => by rw [List.length_cons, List.length_cons, r.len]
theorem AtL.get {H : Hp} : ∀ {vs : List V} {ts : List T} {i : Nat} {v : V}, AtL H vs ts → vs[i]? = some v → ∃ t, ts[i]? = some t ∧ At H v t
  | _, _, _, _, .nil, e => by simp at e
  | _, _, 0, _, .cons h _, e => by simp at e; subst e; exact ⟨_, rfl, h⟩
  | _, _, i + 1, v, .cons _ r, e => by
    obtain ⟨t, h1, h2⟩ := AtL.get (i := i) (v := v) r (by simpa using e)
    exact ⟨t, by simpa using h1, h2⟩
theorem AtL.app {H : Hp} : ∀ {vs us : List V} {ts ss : List T}, AtL H vs ts → AtL H us ss → AtL H (vs ++ us) (ts ++ ss)
  | _, _, _, _, .nil, s => s
  | _, _, _, _, .cons h r, s => .cons h (AtL.app r s)
theorem AtL.snoc {H : Hp} : ∀ {ts : List T} {t : T} {vs : List V}, AtL H vs (ts ++ [t]) → ∃ us v, vs = us ++ [v] ∧ AtL H us ts ∧ At H v t
  | [], t, _, .cons h .nil => ⟨[], _, rfl, .nil, h⟩
  | b :: ts, t, _, .cons h r => by
    obtain ⟨us, v, e, h1, h2⟩ := AtL.snoc (ts := ts) r
    exact ⟨_ :: us, v, by rw [e]; rfl, .cons h h1, h2⟩
def tyT : T → Value
  | .non => .type "NoneType"
  | .bl _ => .type "bool"
  | .int _ => .type "int"
  | .str _ => .type "str"
  | .tup _ => .type "tuple"
  | .lst => .type "list"
  | .dic => .type "dict"
theorem At.ty {K : PySem.W.Frag} {H : Hp} {v : V} {t : T} (h : At H v t) : TyX K H v (tyT t) := by
  cases h with
  | non => exact .of .non
  | bl b => exact .of (.bl b)
  | int i => exact .of (.int i)
  | str x => exact .of (.str x)
  | tup e _ => exact .of (.tup e)
  | lst e => exact .of (.lst e)
  | dic e => exact .of (.dK e)
def isI : T → Bool
  | .int _ => true
  | _ => false
def isIB : T → Bool
  | .int _ => true
  | .bl _ => true
  | _ => false
def isBl : T → Bool
  | .bl _ => true
  | _ => false
def isS : T → Bool
  | .str _ => true
  | _ => false
def isTp : T → Bool
  | .tup _ => true
  | _ => false
structure Nt (K : PySem.W.Frag) (mg : Str → Option Value) (kA : Addr) : Prop where
  gKIND : GI mg "KIND" 0
  gPARTS : GI mg "PARTS" 1
  gMOST_BOXES : GI mg "MOST_BOXES" 24
  gKINDS : mg "KINDS" = some (.ref kA)
  kk : ∀ H, SqT K H kA [.str bar, .str dash]
  ti : mg "isinstance" = none
  tint : mg "int" = none
  tbool : mg "bool" = none
  tstr : mg "str" = none
  ttup : mg "tuple" = none
  tlist : mg "list" = none
  tl : mg "len" = none
  tany : mg "any" = none
  ts : mg "sorted" = none
  tr : mg "range" = none
  kI : ∀ t, kitOne K (tyT t) (.type "int") = some (isIB t)
  kB : ∀ t, kitOne K (tyT t) (.type "bool") = some (isBl t)
  kS : ∀ t, kitOne K (tyT t) (.type "str") = some (isS t)
  kT : ∀ t, kitOne K (tyT t) (.type "tuple") = some (isTp t)
def isKb (k : Str) : Bool := decide (k = bar) || decide (k = dash)
theorem isKb_iff {k : Str} : isKb k = true ↔ isK k := by
  unfold isKb isK
  rw [Bool.or_eq_true, decide_eq_true_eq, decide_eq_true_eq]
def hasK : T → Bool
  | .tup [.str k, _] => isKb k
  | _ => false
def sameK (p : T) (k : Str) : Bool := match p with
  | .tup [.str j, _] => isKb j && decide (j = k)
  | _ => false
def isB : T → Bool
  | .tup [.str k, .tup ps] => isKb k && (decide (2 ≤ ps.length) && !(ps.any fun p => sameK p k))
  | _ => false
theorem sameK_iff {p : T} {k : Str} (hk : isK k) : sameK p k = true ↔ HasK p k := by
  constructor
  · intro h
    unfold sameK at h
    split at h
    · rename_i j q
      rw [Bool.and_eq_true, decide_eq_true_eq] at h
      exact ⟨q, by rw [h.2]⟩
    · cases h
  · rintro ⟨q, rfl⟩
    show (isKb k && decide (k = k)) = true
    rw [isKb_iff.mpr hk, decide_eq_true rfl]
    rfl
theorem isB_iff {t : T} : isB t = true ↔ ∃ k ps, t = .tup [.str k, .tup ps] ∧ isK k ∧ 2 ≤ ps.length ∧ ∀ p ∈ ps, ¬ HasK p k := by
  constructor
  · intro h
    unfold isB at h
    split at h
    · rename_i k ps
      rw [Bool.and_eq_true, Bool.and_eq_true, decide_eq_true_eq, Bool.not_eq_true', List.any_eq_false] at h
      have hk := isKb_iff.mp h.1
      exact ⟨k, ps, rfl, hk, h.2.1, fun p hp z => h.2.2 p hp ((sameK_iff hk).mpr z)⟩
    · cases h
  · rintro ⟨k, ps, rfl, hk, h2, hn⟩
    show (isKb k && (decide (2 ≤ ps.length) && !(ps.any fun p => sameK p k))) = true
    rw [isKb_iff.mpr hk, decide_eq_true h2, Bool.true_and, Bool.true_and, Bool.not_eq_true', List.any_eq_false]
    exact fun p hp z => hn p hp ((sameK_iff hk).mp z)
theorem no_good {t : T} (h1 : isI t = false) (h2 : isB t = false) : ∀ m, ¬ Good t m := fun m g => by
  cases g with
  | leaf i => cases h1
  | node hk h3 hn _ =>
    have := isB_iff.mpr ⟨_, _, rfl, hk, h3, hn⟩
    rw [h2] at this
    cases this
def spWhole : Sp := fun vs H Q _ => ∃ (x : V) (t : T), vs = [x] ∧ At H x t ∧ Q (.bl (isI t)) H
def spHas : Sp := fun vs H Q _ => ∃ (x : V) (t : T), vs = [x] ∧ At H x t ∧ Q (.bl (hasK t)) H
def spBr : Sp := fun vs H Q _ => ∃ (x : V) (t : T), vs = [x] ∧ At H x t ∧ (∀ a ps, t = .tup [a, .tup ps] → ps.length ≤ 100000) ∧ ∀ H', Same H H' → Q (.bl (isB t)) H'
section
variable {P : Program} {w : World} {K : PySem.W.Frag} {mg : Str → Option Value} {base : Heap} {kA : Addr}
theorem scWhole : FnScope ["thing"] ["thing"] (defScope sWhole) := ⟨rfl, rfl, rfl, by decide +kernel, rfl, by decide +kernel, by decide +kernel⟩
theorem ok_whole {f : Addr} {fd : FuncData} (F : Fun K "is_whole" "is_whole" sWhole f fd) (Z : Nt K mg kA) : FnOk P w K mg base CX0 1 f fd ["thing"] spWhole := by
  obtain ⟨gKIND, gPARTS, gMOST_BOXES, gKINDS, kk, ti, tint, tbool, tstr, ttup, tlist, tl, tany, ts, tr, kI, kB, kS, kT⟩ := Z
  refine F.ok scWhole (fun vs H Q E h => ?_) (fun cdv A outer s H vs Q E hr h => ?_)
  · obtain ⟨x, t, rfl, _⟩ := h
    rfl
  · obtain ⟨x, t, rfl, hA, q⟩ := h
    refine ⟨_, (pss_one (ps_ret (pe_and (pe_callB call_isi (by rfl) ti PyProof.Rows.boot_isinstance (pa_cons (pv 0) (pa_cons (pe_tyn rfl tint PyProof.Rows.boot_int) pa_nil))) (pe_one (pe_not (pe_callB call_isi (by rfl) ti PyProof.Rows.boot_isinstance (pa_cons (pv 0) (pa_cons (pe_tyn rfl tbool PyProof.Rows.boot_bool) pa_nil)))))))), ?_⟩
    refine ⟨_, rfl, _, _, _, _, rfl, rfl, hA.ty, kI t, _, rfl, ?_⟩
    have e : isI t = (isIB t && !isBl t) := by cases t <;> rfl
    rw [e] at q
    cases h1 : isIB t with
    | false =>
      rw [h1] at q
      exact iteF q
    | true =>
      rw [h1] at q
      exact iteT ⟨_, rfl, _, _, _, _, rfl, rfl, hA.ty, kB t, _, rfl, q⟩
theorem scHas : FnScope ["thing"] ["thing"] (defScope sHas) := ⟨rfl, rfl, rfl, by decide +kernel, rfl, by decide +kernel, by decide +kernel⟩
theorem in_kinds (k : Str) : inV (.str k) [.str bar, .str dash] = isKb k := by
  unfold isKb
  show (eqV (.str bar) (.str k) || (eqV (.str dash) (.str k) || false)) = _
  rw [Bool.or_false, Bool.eq_iff_iff, Bool.or_eq_true, Bool.or_eq_true, decide_eq_true_eq, decide_eq_true_eq]
  have e : ∀ a b : Str, eqV (.str a) (.str b) = true ↔ b = a := fun a b => by
    show (a == b) = true ↔ b = a
    rw [beq_iff_eq]
    exact eq_comm
  rw [e, e]
theorem ok_has {f : Addr} {fd : FuncData} (F : Fun K "has_kind" "has_kind" sHas f fd) (Z : Nt K mg kA) : FnOk P w K mg base CX0 1 f fd ["thing"] spHas := by
  obtain ⟨gKIND, gPARTS, gMOST_BOXES, gKINDS, kk, ti, tint, tbool, tstr, ttup, tlist, tl, tany, ts, tr, kI, kB, kS, kT⟩ := Z
  refine F.ok scHas (fun vs H Q E h => ?_) (fun cdv A outer s H vs Q E hr h => ?_)
  · obtain ⟨x, t, rfl, _⟩ := h
    rfl
  · obtain ⟨x, t, rfl, hA, q⟩ := h
    refine ⟨_, (pss_one (ps_ret (pe_and (pe_callB call_isi (by rfl) ti PyProof.Rows.boot_isinstance (pa_cons (pv 0) (pa_cons (pe_tyn rfl ttup PyProof.Rows.boot_tuple) pa_nil))) (pe_and (pe_cmpR op_eq (pe_callB call_len_seq (by rfl) tl PySem.boot_len (pa_cons (pv 0) pa_nil)) pe_int (nomark _)) (pe_and (pe_callB call_isi (by rfl) ti PyProof.Rows.boot_isinstance (pa_cons (pe_ix ix_tup (pv 0) (pe_gi rfl gKIND) (fun _ _ => rfl)) (pa_cons (pe_tyn rfl tstr PyProof.Rows.boot_str) pa_nil))) (pe_one (pe_cmpR op_in_seq (pe_ix ix_tup (pv 0) (pe_gi rfl gKIND) (fun _ _ => rfl)) (pe_cls rfl gKINDS) rfl))))))), ?_⟩
    refine ⟨_, rfl, _, _, _, _, rfl, rfl, hA.ty, kT t, _, rfl, ?_⟩
    cases hA with
    | non => exact iteF q
    | bl b => exact iteF q
    | int i => exact iteF q
    | str x => exact iteF q
    | lst e => exact iteF q
    | dic e => exact iteF q
    | @tup a us ss e hL =>
      refine iteT ⟨_, rfl, _, _, rfl, .inr (SqT.of e), rfl, _, rfl, ?_⟩
      have ln := hL.len
      have d : decide (V.int ((us.length : Nat) : Int) = V.int 2) = decide (us.length = 2) := by
        rw [dec_int, Bool.eq_iff_iff, beq_iff_eq, decide_eq_true_eq]
        omega
      rw [d]
      by_cases h2 : us.length = 2
      · rw [decide_eq_true h2]
        refine iteT ?_
        match us, ss, hL, h2, q with
        | [u0, u1], [s0, s1], .cons h0 (.cons h1 .nil), _, q =>
        refine ⟨_, rfl, _, _, _, _, rfl, rfl, SqT.of e, rfl, _, _, _, _, rfl, rfl, h0.ty, kS s0, _, rfl, ?_⟩
        cases h0 with
        | str k =>
          refine iteT ⟨_, rfl, _, _, _, _, rfl, rfl, SqT.of e, rfl, kA, _, rfl, .inr (kk _), rfl, rfl, ?_⟩
          rw [in_kinds]
          exact q
        | non => exact iteF q
        | bl b => exact iteF q
        | int i => exact iteF q
        | lst e => exact iteF q
        | dic e => exact iteF q
        | tup e h => exact iteF q
      · rw [decide_eq_false h2]
        have e0 : hasK (.tup ss) = false := by
          unfold hasK
          split
          · rename_i heq
            injection heq with heq
            rw [heq] at ln
            exact absurd ln h2
          · rfl
        rw [e0] at q
        exact iteF q
end
end JH
set_option Elab.async false
set_option linter.all false
set_option maxRecDepth 100000
set_option maxHeartbeats 1000000
namespace JH
open PySem L2 Tre PySem.W
inductive Small : T → Prop where
  | non : Small .non
  | bl (b : Bool) : Small (.bl b)
  | int (i : Int) : Small (.int i)
  | str (x : Str) : Small (.str x)
  | tup {ts : List T} (l : ts.length ≤ 1000) (h : ∀ t ∈ ts, Small t) : Small (.tup ts)
  | lst : Small .lst
  | dic : Small .dic
theorem Small.parts {ts : List T} (h : Small (.tup ts)) : ts.length ≤ 1000 ∧ ∀ t ∈ ts, Small t := by
  cases h with
  | tup l h => exact ⟨l, h⟩
def spNum : Sp := fun vs H Q _ => ∃ (x : V) (t : T), vs = [x] ∧ At H x t ∧ Small t ∧ ∀ (r : List Int) (l : Addr) (H' : Hp), Same H H' → H l = none → H' l = some (.lst (r.map V.int)) → r.length ≤ 24 → Tells t r → Q (.ref l) H'
def spTree : Sp := fun vs H Q _ => ∃ (x : V) (t : T), vs = [x] ∧ At H x t ∧ Small t ∧ ∀ (b : Bool) (H' : Hp), Same H H' → (b = true ↔ IsTree t) → Q (.bl b) H'
theorem eq_ints {K : PySem.W.Frag} {H : Hp} {a c : Addr} {ms ns : List Int} (ha : SqL K H a (ms.map V.int)) (hc : SqL K H c (ns.map V.int)) : EqR K H 1 (.ref a) (.ref c) (decide (ms = ns)) := by
  by_cases hl : ms.length = ns.length
  · have fl : ∀ (xs : List Int) (j : Nat), j < (xs.map V.int).length → (xs.map V.int).getD j .non = .int (xs.getD j 0) := fun xs j hj => by
      rw [List.length_map] at hj
      rw [List.getD_eq_getElem?_getD, List.getElem?_map, List.getElem?_eq_getElem hj, List.getD_eq_getElem?_getD, List.getElem?_eq_getElem hj]
      rfl
    have := EqR.lsts (K := K) (H := H) (n := 0) (e := fun j => eqV (.int (ms.getD j 0)) (.int (ns.getD j 0))) ha hc (by rw [List.length_map, List.length_map]; exact hl) fun j hj => by
      rw [fl ms j hj, fl ns j (by rw [List.length_map] at hj ⊢; omega)]
      exact .flat rfl rfl
    have e : (List.range (ms.map V.int).length).all (fun j => eqV (.int (ms.getD j 0)) (.int (ns.getD j 0))) = decide (ms = ns) := by
      rw [Bool.eq_iff_iff, decide_eq_true_eq, List.all_eq_true, List.length_map]
      constructor
      · intro h
        apply List.ext_getElem hl
        intro i h1 h2
        have := h i (List.mem_range.mpr h1)
        have this : (ms.getD i 0 == ns.getD i 0) = true := this
        rw [beq_iff_eq, List.getD_eq_getElem?_getD, List.getD_eq_getElem?_getD, List.getElem?_eq_getElem h1, List.getElem?_eq_getElem h2] at this
        exact this
      · rintro rfl j _
        show (ms.getD j 0 == ms.getD j 0) = true
        rw [beq_iff_eq]
    rw [← e]
    exact this
  · rw [decide_eq_false (fun z => hl (by rw [z]))]
    exact EqR.lens (n := 0) ha hc (by rw [List.length_map, List.length_map]; exact hl)
theorem hasK_iff {t : T} : hasK t = true ↔ ∃ k q, t = .tup [.str k, q] ∧ isKb k = true := by
  constructor
  · intro h
    unfold hasK at h
    split at h
    · exact ⟨_, _, rfl, h⟩
    · cases h
  · rintro ⟨k, q, rfl, h⟩
    exact h
theorem isB_no {t : T} (h : hasK t = false) : isB t = false := by
  cases e : isB t with
  | false => rfl
  | true =>
    obtain ⟨k, ps, rfl, hk, _⟩ := isB_iff.mp e
    have : hasK (.tup [.str k, .tup ps]) = true := hasK_iff.mpr ⟨k, _, rfl, isKb_iff.mpr hk⟩
    rw [h] at this
    cases this
theorem sameK_no {p : T} {k : Str} (h : hasK p = false) : sameK p k = false := by
  cases e : sameK p k with
  | false => rfl
  | true =>
    unfold sameK at e
    split at e
    · rename_i j q
      rw [Bool.and_eq_true] at e
      have : hasK (.tup [.str j, q]) = true := e.1
      rw [h] at this
      cases this
    · cases e
section
variable {P : Program} {w : World} {K : PySem.W.Frag} {mg : Str → Option Value} {base : Heap} {kA : Addr}
theorem scBr : FnScope ["thing", "parts"] ["thing"] (defScope sBr) := ⟨rfl, rfl, rfl, by decide +kernel, rfl, by decide +kernel, by decide +kernel⟩
theorem ok_br {f fH : Addr} {fd fdH : FuncData} (F : Fun K "is_branch" "is_branch" sBr f fd) (Z : Nt K mg kA) (Hk : Callee P w K mg base CX0 1 "has_kind" fH fdH ["thing"] spHas) : FnOk P w K mg base CX0 2 f fd ["thing"] spBr := by
  obtain ⟨gKIND, gPARTS, gMOST_BOXES, gKINDS, kk, ti, tint, tbool, tstr, ttup, tlist, tl, tany, ts, tr, kI, kB, kS, kT⟩ := Z
  refine F.ok scBr (fun vs H Q E h => ?_) (fun cdv A outer s H vs Q E hr h => ?_)
  · obtain ⟨x, t, rfl, _⟩ := h
    rfl
  · obtain ⟨x, t, rfl, hA, hn, q⟩ := h
    refine ⟨_, (pss_cons (ps_if (pt_not (pt_val (pe_call Hk.ok hr rfl Hk.bound Hk.kp Hk.bd .nil pass0 (pa_cons (pv 0) pa_nil))))
      (pss_one (ps_ret pe_bl))
      pss_nil)
      (pss_cons (ps_set (i := 1) scBr.nd rfl (Or.inl rfl) (pe_ix ix_tup (pv 0) (pe_gi rfl gPARTS) (fun _ _ => rfl)))
      (pss_cons (ps_if (PW.pt (pw_or (pt_not (pt_val (pe_callB call_isi (by rfl) ti PyProof.Rows.boot_isinstance (pa_cons (pv 1) (pa_cons (pe_tyn rfl ttup PyProof.Rows.boot_tuple) pa_nil))))) (pw_or1 (pt_cmpR op_lt (pe_callB call_len_seq (by rfl) tl PySem.boot_len (pa_cons (pv 1) pa_nil)) pe_int (nomark _)))))
      (pss_one (ps_ret pe_bl))
      pss_nil)
      (pss_one (ps_ret (pe_not (pe_callB (call_anyL rfl) (by rfl) tany PyProof.Rows.boot_any (pa_cons (pe_comp (Nc := ["part", "thing"]) (ix := [none, some 0]) rfl rfl (by exact (pi_tup (pv 1))) (fun _ _ _ _ _ => (pg_name (i := 0) (by show (["part", "thing"] : List Str).Nodup; decide +kernel) rfl (Or.inl rfl))) (fun _ _ _ _ _ => pts_nil) (fun _ _ _ _ _ => (pe_and (pe_call Hk.ok hr rfl Hk.bound Hk.kp Hk.bd .nil pass0 (pa_cons (pv 0) pa_nil)) (pe_one (pe_cmpR op_eq (pe_ix (ix_tupK (K := K) rfl) (pv 0) (pe_gi rfl gKIND) (fun _ _ => rfl)) (pe_ix (ix_tupK (K := K) rfl) (pv 1) (pe_gi rfl gKIND) (fun _ _ => rfl)) (nomark _)))))) pa_nil)))))))), ?_⟩
    refine ⟨_, rfl, x, t, rfl, hA, _, rfl, ?_⟩
    cases hh : hasK t with
    | false =>
      have := q H (Same.refl _)
      rw [isB_no hh] at this
      exact iteT this
    | true =>
      obtain ⟨k, qq, rfl, hk⟩ := hasK_iff.mp hh
      cases hA with
      | @tup a us ss e hL =>
      cases hL with
      | @cons u0 _ _ _ h0 hr =>
      cases h0
      cases hr with
      | @cons u1 _ _ _ hq hr2 =>
      cases hr2
      refine iteF ?_
      refine ⟨_, rfl, _, _, _, _, rfl, rfl, SqT.of e, rfl, ?_⟩
      refine ⟨_, rfl, _, _, _, _, rfl, rfl, hq.ty, kT qq, _, rfl, ?_⟩
      cases hq with
      | non => exact iteT (iteT (q H (Same.refl _)))
      | bl b => exact iteT (iteT (q H (Same.refl _)))
      | int i => exact iteT (iteT (q H (Same.refl _)))
      | str x => exact iteT (iteT (q H (Same.refl _)))
      | lst e => exact iteT (iteT (q H (Same.refl _)))
      | dic e => exact iteT (iteT (q H (Same.refl _)))
      | @tup b ws ps e2 hP =>
        have ln := hP.len
        have hn : ps.length ≤ 100000 := hn _ _ rfl
        refine iteF ⟨_, rfl, _, _, rfl, .inr (SqT.of e2), _, _, rfl, rfl, _, rfl, ?_⟩
        have qB : ∀ H', Same H H' → Q (.bl (isKb k && (decide (2 ≤ ps.length) && !(ps.any fun p => sameK p k)))) H' := q
        rw [hk] at qB
        by_cases h2 : 2 ≤ ps.length
        · rw [decide_eq_true h2] at qB
          rw [decide_eq_false (by omega)]
          refine iteF ?_
          refine ⟨_, rfl, b, rfl, ⟨_, SqT.of e2⟩, cmp_tup (K := K) (a := b) (xs := ws) (fun i ys σ H' => ys = ((ps.take i).map fun p => sameK p k).map V.bl ∧ H' = H ∧ ∃ o, σ = [o, some (.ref a)]) ⟨rfl, rfl, none, rfl⟩
            (fun i ys σ H' hi ⟨e, e3, _⟩ => ⟨by rw [e, List.length_map, List.length_map, List.length_take]; exact Nat.le_trans (show _ ≤ 1000000 by omega) (by decide), by rw [e3]; exact SqT.of e2⟩) ?_ ?_⟩
          · rintro ys σ H' ⟨e3, rfl, _⟩ la nl
            rw [ln, List.take_length] at e3
            subst e3
            refine ⟨la, ps.map fun p => sameK p k, rfl, SqL.of upd_same, _, rfl, ?_⟩
            have z := qB _ (same_new (o := .lst ((ps.map fun p => sameK p k).map V.bl)) nl)
            rw [List.any_map]
            exact z
          · rintro i x ys σ H' hx ⟨e3, rfl, o, rfl⟩
            subst e3
            obtain ⟨p, ep, hAp⟩ := hP.get hx
            obtain ⟨hil, ev⟩ := List.getElem?_eq_some_iff.mp ep
            dsimp only [gName, tYes]
            refine iteT ?_
            refine ⟨_, rfl, x, p, rfl, hAp, _, rfl, ?_⟩
            have fin : ∀ b : Bool, b = sameK p k → (((ps.take i).map fun p => sameK p k).map V.bl) ++ [V.bl b] = ((ps.take (i + 1)).map fun p => sameK p k).map V.bl := fun b eb => by
              rw [← List.take_append_getElem hil, ev, List.map_append, List.map_append, eb]
              rfl
            cases hp : hasK p with
            | false => exact iteF ⟨fin _ (sameK_no hp).symm, rfl, _, rfl⟩
            | true =>
              obtain ⟨j, r, rfl, hj⟩ := hasK_iff.mp hp
              cases hAp with
              | @tup c vs2 _ e4 hL2 =>
              cases hL2 with
              | @cons v0 _ _ _ g0 gr =>
              cases g0
              cases gr with
              | @cons v1 _ _ _ g1 gr2 =>
              cases gr2
              refine iteT ⟨_, rfl, _, _, _, _, rfl, rfl, SqT.of e4, rfl, _, rfl, _, _, _, _, rfl, rfl, SqT.of e, rfl, rfl, fin _ ?_, rfl, _, rfl⟩
              show decide (V.str j = V.str k) = (isKb j && decide (j = k))
              rw [hj, Bool.true_and, dec_str, Bool.eq_iff_iff, beq_iff_eq, decide_eq_true_eq]
        · rw [decide_eq_false h2] at qB
          rw [decide_eq_true (by omega)]
          exact iteT (qB H (Same.refl _))
theorem scNum : FnScope ["thing", "numbers", "ahead", "part"] ["thing"] (defScope sNum) := ⟨rfl, rfl, rfl, by decide +kernel, rfl, by decide +kernel, by decide +kernel⟩
theorem ok_num {f fW fB : Addr} {fd fdW fdB : FuncData} (F : Fun K "numbers_in" "numbers_in" sNum f fd) (Z : Nt K mg kA) (Wo : Callee P w K mg base CX0 1 "is_whole" fW fdW ["thing"] spWhole) (Br : Callee P w K mg base CX0 2 "is_branch" fB fdB ["thing"] spBr) : FnOk P w K mg base CX0 4 f fd ["thing"] spNum := by
  obtain ⟨gKIND, gPARTS, gMOST_BOXES, gKINDS, kk, ti, tint, tbool, tstr, ttup, tlist, tl, tany, ts, tr, kI, kB, kS, kT⟩ := Z
  refine F.ok scNum (fun vs H Q E h => ?_) (fun cdv A outer s H vs Q E hr h => ?_)
  · obtain ⟨x, t, rfl, _⟩ := h
    rfl
  · obtain ⟨x, t, rfl, hA, hS, q⟩ := h
    refine ⟨_, (pss_cons (ps_set (i := 1) scNum.nd rfl (Or.inl rfl) (pe_lst pa_nil))
      (pss_cons (ps_set (i := 2) scNum.nd rfl (Or.inl rfl) (pe_lst (pa_cons (pv 0) pa_nil)))
      (pss_cons (ps_while PassesOwn.never (pt_truth (pv 2) (fun _ => rfl))
      (pss_cons (ps_set (i := 3) scNum.nd rfl (Or.inl rfl) (pe_bm0 PySem.F.plainAttrs_list PySem.F.slot_list_pop PySem.F.type_list_pop mt_pop (pv 2)))
        (pss_cons (ps_if (pt_val (pe_call Wo.ok (hr.mono (show 1 ≤ 3 by decide)) rfl Wo.bound Wo.kp Wo.bd .nil pass0 (pa_cons (pv 3) pa_nil)))
        (pss_one (ps_expr (pe_bm PySem.F.plainAttrs_list PySem.F.slot_list_append PySem.F.type_list_append mt_append (pv 1) (pa_cons (pv 3) pa_nil))))
        (pss_one (ps_if (pt_val (pe_call Br.ok (hr.mono (show 2 ≤ 3 by decide)) rfl Br.bound Br.kp Br.bd .nil pass0 (pa_cons (pv 3) pa_nil)))
          (pss_one (ps_expr (pe_bm PySem.F.plainAttrs_list PySem.F.slot_list_extend PySem.F.type_list_extend mt_extendT (pv 2) (pa_cons (pe_ix ix_tup (pv 3) (pe_gi rfl gPARTS) (fun _ _ => rfl)) pa_nil))))
          (pss_one (ps_ret (pe_lst pa_nil))))))
        (pss_one (ps_if (pt_cmpR op_gt (pe_op op_add (pe_callB call_len_seq (by rfl) tl PySem.boot_len (pa_cons (pv 1) pa_nil)) (pe_callB call_len_seq (by rfl) tl PySem.boot_len (pa_cons (pv 2) pa_nil))) (pe_gi rfl gMOST_BOXES) (nomark _))
        (pss_one (ps_ret (pe_lst pa_nil)))
        pss_nil)))))
      (pss_one (ps_ret (pv 1)))))), ?_⟩
    refine ⟨by show 0 ≤ sizeLine; decide, fun ln nln => ?_⟩
    have S1 := same_new (o := .lst []) nln
    have h1 : (upd H ln (.lst [])) ln = some (.lst []) := upd_same
    generalize upd H ln (.lst []) = H1 at S1 h1
    refine ⟨_, rfl, by show 1 ≤ sizeLine; decide, fun la nla => ?_⟩
    have S2 := S1.trans (same_new (o := .lst [x]) nla)
    have h2 : (upd H1 la (.lst [x])) la = some (.lst [x]) := upd_same
    have h1 := same_new (o := .lst [x]) nla _ _ h1
    have fla : H la = none := S1.free nla
    have nn : ln ≠ la := fun z => by rw [z, h2] at h1; cases h1
    generalize upd H1 la (.lst [x]) = H2 at S2 h1 h2
    dsimp only
    refine run_seq ?_
    refine while_n (fun m σ H3 => ∃ (us : List V) (ts : List T) (ns : List Int) (o : Option V), m = szL ts ∧ σ = [some x, some (.ref ln), some (.ref la), o] ∧ Same H H3 ∧ H3 ln = some (.lst (ns.map V.int)) ∧ H3 la = some (.lst us) ∧ AtL H us ts ∧ (∀ t ∈ ts, Small t) ∧ Rel t ts ns ∧ ns.length + ts.length ≤ 24) (szL [t])
      ⟨[x], [t], [], none, rfl, rfl, S2, h1, h2, .cons hA .nil, (fun u hu => by rw [List.mem_singleton.mp hu]; exact hS), .start t, by show 0 + 1 ≤ 24; decide⟩ ?_
    rintro m σ H3 ⟨us, ts, ns, o, rfl, rfl, S3, hln, hla, hL, hSm, R, l24⟩
    have lus := hL.len
    have te : ∀ k : Bool, k = !us.isEmpty → k = decide (us ≠ []) := fun k e => by
      rw [e]
      cases us <;> simp
    refine ⟨us ≠ [], inferInstance, fun Q' q' => ⟨_, rfl, _, .inl ⟨us, SqL.of hla, rfl⟩, by rw [te _ rfl]; exact q'⟩, fun hne => ?_, fun hne => ?_⟩
    · obtain ⟨ts', p, rfl⟩ : ∃ ts' p, ts = ts' ++ [p] := by
        have : ts ≠ [] := fun z => by rw [z] at lus; exact hne (List.length_eq_zero_iff.mp lus)
        exact ⟨_, _, (List.dropLast_concat_getLast this).symm⟩
      obtain ⟨us', v, rfl, hL', hv⟩ := hL.snoc
      have hpS := hSm p (by simp)
      refine ⟨_, rfl, .inl ⟨rfl, _, SqL.of hla⟩, la, _, v, rfl, rfl, hla, (by simp), ?_⟩
      have S4 : Same H (upd H3 la (.lst (us' ++ [v]).dropLast)) := same_upd S3 fla
      have hla4 : (upd H3 la (.lst (us' ++ [v]).dropLast)) la = some (.lst us') := by rw [upd_same, List.dropLast_concat]
      have hln4 : (upd H3 la (.lst (us' ++ [v]).dropLast)) ln = some (.lst (ns.map V.int)) := by rw [upd_ne nn]; exact hln
      generalize upd H3 la (.lst (us' ++ [v]).dropLast) = H4 at S4 hla4 hln4
      rw [List.length_append, List.length_singleton] at l24
      have ssz : szL (ts' ++ [p]) = szL ts' + sz p := by rw [szL_app]; show szL ts' + (sz p + szL []) = _; rw [show szL [] = 0 by unfold szL; rfl]; omega
      have psz := sz_pos p
      try dsimp only
      refine seq_key (R := fun σ H5 => ∃ (us5 : List V) (ts5 : List T) (ns5 : List Int), σ = [some x, some (.ref ln), some (.ref la), some v] ∧ Same H H5 ∧ H5 ln = some (.lst (ns5.map V.int)) ∧ H5 la = some (.lst us5) ∧ AtL H us5 ts5 ∧ (∀ t ∈ ts5, Small t) ∧ Rel t ts5 ns5 ∧ szL ts5 < szL (ts' ++ [p]) ∧ us5.length ≤ 2000 ∧ ns5.length ≤ 30) ?_ (fun k => ?_)
      case refine_1 =>
        rintro σ H5 ⟨us5, ts5, ns5, rfl, S5, hln5, hla5, hL5, hS5, R5, lt5, u2000, n30⟩
        have l5 := hL5.len
        refine tst_if (p := (24 : Int) < (((ns5.map V.int).length : Nat) : Int) + ((us5.length : Nat) : Int)) (tst_of (evl_I0 (evl_I0 (evl_lenL (evl_var rfl) (SqL.of hln5)) (evl_lenL (evl_var rfl) (SqL.of hla5))) evl_c)) (fun c => ?_) (fun c => ?_)
        · rw [List.length_map] at c
          refine ⟨by show 0 ≤ sizeLine; decide, fun l nl => q [] l _ (S5.trans (same_new nl)) (S5.free nl) upd_same (by decide) (.inr ⟨rfl, fun y gy => ?_⟩)⟩
          have := R5.many y gy
          omega
        · rw [List.length_map] at c
          exact ⟨szL ts5, lt5, us5, ts5, ns5, _, rfl, rfl, S5, hln5, hla5, hL5, hS5, R5, by omega⟩
      refine ⟨_, rfl, v, p, rfl, hv.same S4, _, rfl, ?_⟩
      cases hI : isI p with
      | true =>
        refine iteT ?_
        cases hv with
        | int i =>
          refine ⟨_, rfl, .inl ⟨rfl, _, SqL.of hln4⟩, _, rfl, ln, _, _, rfl, rfl, hln4, by rw [List.length_map]; exact Nat.lt_of_le_of_lt (show _ ≤ 24 by omega) (by decide), ?_⟩
          refine k _ _ ⟨us', ts', ns ++ [i], rfl, same_upd S4 nln, by rw [upd_same, List.map_append]; rfl, by rw [upd_ne nn.symm]; exact hla4, hL', fun u hu => hSm u (List.mem_append_left _ hu), R.leaf, by omega, ?_, by rw [List.length_append, List.length_singleton]; omega⟩
          rw [hL'.len]
          omega
        | non => cases hI
        | bl b => cases hI
        | str x => cases hI
        | tup e h => cases hI
        | lst e => cases hI
        | dic e => cases hI
      | false =>
        refine iteF ?_
        have sb : ∀ a ps, p = .tup [a, .tup ps] → ps.length ≤ 100000 := fun a ps e => by
          subst e
          have := (hpS.parts.2 (.tup ps) (by simp)).parts.1
          omega
        refine ⟨_, rfl, v, p, rfl, hv.same S4, sb, fun H5 S5 => ⟨_, rfl, ?_⟩⟩
        have S45 := S4.trans S5
        cases hB : isB p with
        | false =>
          refine iteF ?_
          refine ⟨by show 0 ≤ sizeLine; decide, fun l nl => q [] l _ (S45.trans (same_new nl)) (S45.free nl) upd_same (by decide) (.inr ⟨rfl, fun y gy => ?_⟩)⟩
          exact absurd gy (R.none (no_good hI hB) y)
        | true =>
          refine iteT ?_
          obtain ⟨kd, ps, rfl, hk, h2p, hno⟩ := isB_iff.mp hB
          cases hv with
          | @tup a _ _ e hLL =>
          cases hLL with
          | @cons u0 _ _ _ g0 gr =>
          cases g0
          cases gr with
          | @cons u1 _ _ _ g1 gr2 =>
          cases gr2
          cases g1 with
          | @tup b ws _ e2 hP =>
          have lw := hP.len
          have pl := (hpS.parts.2 (.tup ps) (by simp)).parts
          refine ⟨_, rfl, .inl ⟨rfl, _, SqL.of (S5 _ _ hla4)⟩, _, rfl, _, _, _, _, rfl, rfl, SqT.of (S45 _ _ e), rfl, la, b, _, _, rfl, rfl, S5 _ _ hla4, SqT.of (S45 _ _ e2), Nat.le_trans (show us'.length + ws.length ≤ 2000 by have := hL'.len; omega) (by decide), ?_⟩
          refine k _ _ ⟨us' ++ ws, ts' ++ ps, ns, rfl, same_upd S45 fla, by rw [upd_ne nn]; exact S5 _ _ hln4, upd_same, hL'.app hP, fun u hu => ?_, R.node hk h2p hno, ?_, by rw [List.length_append]; have := hL'.len; omega, by omega⟩
          · rcases List.mem_append.mp hu with z | z
            · exact hSm u (List.mem_append_left _ z)
            · exact pl.2 u z
          · rw [ssz, szL_app]
            rw [sz_node]
            omega
    · have e0 : us = [] := Classical.byContradiction fun z => hne z
      subst e0
      cases hL
      obtain ⟨y, gy, py⟩ := R.done
      refine ⟨_, rfl, q ns ln H3 S3 nln hln (by omega) (.inl ⟨y, gy, ?_, py.symm⟩)⟩
      rw [py.length_eq]
      omega
theorem scTree : FnScope ["thing", "numbers"] ["thing"] (defScope sTree) := ⟨rfl, rfl, rfl, by decide +kernel, rfl, by decide +kernel, by decide +kernel⟩
theorem ok_tree {f fN : Addr} {fd fdN : FuncData} (F : Fun K "is_tree" "is_tree" sTree f fd) (Z : Nt K mg kA) (Nu : Callee P w K mg base CX0 4 "numbers_in" fN fdN ["thing"] spNum) : FnOk P w K mg base CX0 5 f fd ["thing"] spTree := by
  obtain ⟨gKIND, gPARTS, gMOST_BOXES, gKINDS, kk, ti, tint, tbool, tstr, ttup, tlist, tl, tany, ts, tr, kI, kB, kS, kT⟩ := Z
  refine F.ok scTree (fun vs H Q E h => ?_) (fun cdv A outer s H vs Q E hr h => ?_)
  · obtain ⟨x, t, rfl, _⟩ := h
    rfl
  · obtain ⟨x, t, rfl, hA, hS, q⟩ := h
    refine ⟨_, (pss_cons (ps_set (i := 1) scTree.nd rfl (Or.inl rfl) (pe_call Nu.ok hr rfl Nu.bound Nu.kp Nu.bd .nil pass0 (pa_cons (pv 0) pa_nil)))
      (pss_one (ps_ret (pe_and (pe_cmpR op_gt (pe_callB call_len_seq (by rfl) tl PySem.boot_len (pa_cons (pv 1) pa_nil)) pe_int (nomark _)) (pe_one (pe_cmpR (op_eqR hr.units) (pe_callB call_sortN (by rfl) ts PyProof.Rows.boot_sorted (pa_cons (pv 1) pa_nil)) (pe_listRange rfl rfl tlist rfl tr (pa_cons (pe_callB call_len_seq (by rfl) tl PySem.boot_len (pa_cons (pv 1) pa_nil)) pa_nil)) (nomark _))))))), ?_⟩
    refine ⟨_, rfl, x, t, rfl, hA, hS, fun r l H1 S1 nl hl r24 tells => ?_⟩
    refine ⟨_, rfl, _, _, rfl, .inl (SqL.of hl), _, _, rfl, rfl, _, rfl, ?_⟩
    rw [List.length_map]
    by_cases h0 : 0 < r.length
    · rw [decide_eq_true (by omega)]
      refine iteT ?_
      refine ⟨_, rfl, l, r, rfl, SqL.of hl, by omega, fun l2 ms nl2 pm st => ?_⟩
      have S2 := same_new (o := .lst (ms.map V.int)) nl2
      have h2 : (upd H1 l2 (.lst (ms.map V.int))) l2 = some (.lst (ms.map V.int)) := upd_same
      have hl2 := S2 _ _ hl
      generalize upd H1 l2 (.lst (ms.map V.int)) = H2 at S2 h2 hl2
      refine ⟨_, rfl, _, _, rfl, .inl (SqL.of hl2), r.length, by rw [List.length_map], by omega, fun l3 nl3 => ?_⟩
      have S3 := same_new (o := .lst ((List.range r.length).map fun i : Nat => V.int i)) nl3
      have h3 : (upd H2 l3 (.lst ((List.range r.length).map fun i : Nat => V.int i))) l3 = some (.lst ((up r.length).map V.int)) := by
        rw [upd_same]
        unfold up
        rw [List.map_map]
        rfl
      refine ⟨l2, l3, 1, _, rfl, rfl, eq_ints (SqL.of (S3 _ _ h2)) (SqL.of h3), by decide, ?_⟩
      refine q _ _ (S1.trans (S2.trans S3)) ?_
      show decide (ms = up r.length) = true ↔ _
      rw [decide_eq_true_eq, ← tells.tree pm st]
      exact ⟨fun z => ⟨h0, z⟩, fun z => z.2⟩
    · rw [decide_eq_false (by omega)]
      refine iteF (q _ _ S1 ?_)
      rw [← tells.tree (List.Perm.refl _) (by rw [List.length_eq_zero_iff.mp (show r.length = 0 by omega)]; exact List.Pairwise.nil)]
      exact ⟨fun z => (by cases z), fun z => absurd z.1 h0⟩
end
end JH
set_option Elab.async false
set_option linter.all false
set_option maxRecDepth 100000
set_option maxHeartbeats 1000000
namespace Tre
open PySem
theorem szL_len : ∀ ts : List T, ts.length ≤ szL ts
  | [] => Nat.zero_le _
  | t :: r => by
    have := szL_len r
    have := sz_pos t
    show r.length + 1 ≤ sz t + szL r
    omega
end Tre
namespace JH
open PySem L2 Tre PySem.W
mutual
theorem small_of : ∀ t : T, sz t ≤ 1000 → Small t
  | .non, _ => .non
  | .bl b, _ => .bl b
  | .int i, _ => .int i
  | .str x, _ => .str x
  | .lst, _ => .lst
  | .dic, _ => .dic
  | .tup ts, h => by
    have e : sz (.tup ts) = 1 + szL ts := by simp only [sz]
    have := szL_len ts
    exact .tup (by omega) (small_ofL ts (by omega))
theorem small_ofL : ∀ ts : List T, szL ts ≤ 1000 → ∀ t ∈ ts, Small t
  | [], _, t, ht => (List.not_mem_nil ht).elim
  | t :: r, h, u, hu => by
    have e : szL (t :: r) = sz t + szL r := by simp only [szL]
    rcases List.mem_cons.mp hu with z | z
    · rw [z]
      exact small_of t (by omega)
    · exact small_ofL r (by omega) u z
end
theorem Paired.unsnoc {α β : Type} {R : α → β → Prop} {p : β} {ps : List β} : ∀ {vs : List α}, Paired R vs (ps ++ [p]) → ∃ us v, vs = us ++ [v] ∧ Paired R us ps ∧ R v p := by
  induction ps with
  | nil =>
    intro vs h
    cases h with
    | cons r t => cases t; exact ⟨[], _, rfl, .nil, r⟩
  | cons b ps ih =>
    intro vs h
    cases h with
    | cons r t =>
      obtain ⟨us, v, e, h1, h2⟩ := ih t
      exact ⟨_ :: us, v, by rw [e]; rfl, .cons r h1, h2⟩
end JH
set_option Elab.async false
set_option linter.all false
set_option maxRecDepth 100000
set_option maxHeartbeats 1000000
namespace Tre
open PySem
end Tre
namespace JH
open PySem L2 Tre PySem.W
theorem AtL.knot {H : Hp} {vs : List V} {k : Str} {ps : List T} (h : AtL H vs [.str k, .tup ps]) : ∃ b ws, vs = [.str k, .ref b] ∧ H b = some (.tup ws) ∧ AtL H ws ps := by
  cases h with
  | cons h r =>
    cases h
    cases r with
    | cons h2 r2 =>
      cases r2
      cases h2 with
      | tup e hq => exact ⟨_, _, rfl, e, hq⟩
theorem strokes : ("|-" : Str) = txt [124, 45] := by decide +kernel
theorem stroke_at (i : Int) : ∃ c : Nat, atI [124, 45] (i % 2) = some c ∧ isK (txt [c]) := by
  rcases (show i % 2 = 0 ∨ i % 2 = 1 by omega) with e | e <;> rw [e]
  · exact ⟨124, rfl, .inl (by decide +kernel)⟩
  · exact ⟨45, rfl, .inr (by decide +kernel)⟩
end JH
set_option Elab.async false
set_option linter.all false
set_option maxRecDepth 100000
set_option maxHeartbeats 1000000
namespace Tre
open PySem
end Tre
namespace JH
open PySem L2 Tre PySem.W
theorem cutV_take (xs : List V) (k : Nat) (h : k ≤ xs.length) : cutV xs none (some (k : Int)) = xs.take k := by
  unfold cutV
  rw [HT.sIx_none, HT.sIx_nat, Nat.min_eq_left h]
  rfl
theorem cut_ints (ns : List Int) (lo hi : Option Int) : ∃ ms : List Int, cutV (ns.map V.int) lo hi = ms.map V.int := by
  unfold cutV
  exact ⟨_, by rw [← List.map_drop, ← List.map_take]⟩
theorem erase_map {α β : Type} (f : α → β) : ∀ (l : List α) (k : Nat), (l.map f).eraseIdx k = (l.eraseIdx k).map f
  | [], _ => rfl
  | _ :: _, 0 => rfl
  | x :: l, k + 1 => by
    show f x :: (l.map f).eraseIdx k = f x :: (l.eraseIdx k).map f
    rw [erase_map f l k]
theorem erase_perm {α : Type} : ∀ {l : List α} {k : Nat} (h : k < l.length), (l[k] :: l.eraseIdx k).Perm l
  | _ :: _, 0, _ => .refl _
  | x :: l, k + 1, h => by
    show (l[k]'(by simpa using h) :: x :: l.eraseIdx k).Perm (x :: l)
    exact (List.Perm.swap _ _ _).trans ((erase_perm (l := l) (k := k) (by simpa using h)).cons x)
end JH
set_option Elab.async false
set_option linter.all false
set_option maxRecDepth 100000
set_option maxHeartbeats 1000000
namespace Tre
open PySem
mutual
theorem Good.szN : ∀ {t : T} {n : List Int}, Good t n → sz t + 3 ≤ 4 * n.length
  | _, _, .leaf i => by simp [sz]
  | _, _, .node (k := k) (ps := ps) (nss := nss) hk h2 hn h => by
    have := GoodL.szN h
    have := sz_node k ps
    omega
theorem GoodL.szN : ∀ {ts : List T} {nss : List (List Int)}, GoodL ts nss → szL ts + 3 * ts.length ≤ 4 * nss.flatten.length
  | _, _, .nil => by simp [szL]
  | _, _, .cons h r => by
    have := h.szN
    have := GoodL.szN r
    rw [List.flatten_cons, List.length_append, List.length_cons]
    simp only [szL]
    omega
end
theorem szMem : ∀ (r : List T) (p : T), p ∈ r → sz p ≤ szL r
  | q :: r, p, h => by
    simp only [szL]
    rcases List.mem_cons.mp h with z | z
    · rw [z]; omega
    · have := szMem r p z
      omega
theorem two_of {ps : List T} {p : T} (h2 : 2 ≤ ps.length) (hp : p ∈ ps) : sz p + 1 ≤ szL ps := by
  obtain ⟨i, hi, e⟩ := List.mem_iff_getElem.mp hp
  have c : ps[i]? = some p := by rw [List.getElem?_eq_getElem hi, e]
  match ps, h2, i, c with
  | a :: b :: r, _, 0, c =>
    have c : a = p := by simpa using c
    subst c
    have := sz_pos b
    simp only [szL]
    omega
  | a :: r, _, j + 1, c =>
    have := szMem r p (List.mem_of_getElem? (i := j) (by simpa using c))
    have := sz_pos a
    simp only [szL]
    omega
def okN (n : List Int) : Prop := ∀ i ∈ n, 0 ≤ i ∧ i < 24
theorem IsTree.okN {t : T} {n : List Int} (h : IsTree t) (g : Good t n) : okN n ∧ n.length ≤ 24 := by
  obtain ⟨x, gx, l, p⟩ := h
  have e := Good.uniq g gx
  subst e
  refine ⟨fun i hi => ?_, l⟩
  have := p.mem_iff.mp hi
  unfold up at this
  obtain ⟨j, hj, rfl⟩ := List.mem_map.mp this
  have := List.mem_range.mp hj
  omega
end Tre
namespace JH
open PySem L2 Tre PySem.W
def spRefT (C : Addr) : Sp := fun vs H Q E => ∃ (x : V) (t : T), vs = [x] ∧ At H x t ∧ sz t ≤ 1000 ∧ ((IsTree t ∧ ∀ H', Same H H' → Q .non H') ∨ (¬ IsTree t ∧ ∀ H', Same H H' → E (.ref C) none H'))
def spBoxes (C : Addr) : Sp := fun vs H Q E => ∃ (x : V) (t : T), vs = [x] ∧ At H x t ∧ sz t ≤ 1000 ∧ ((∃ n, IsTree t ∧ Good t n ∧ ∀ H', Same H H' → Q (.int n.length) H') ∨ (¬ IsTree t ∧ ∀ H', Same H H' → E (.ref C) none H'))
section
variable {P : Program} {w : World} {K : PySem.W.Frag} {mg : Str → Option Value} {base : Heap} {kA : Addr}
theorem scRefT : FnScope ["thing"] ["thing"] (defScope sRefT) := ⟨rfl, rfl, rfl, by decide +kernel, rfl, by decide +kernel, by decide +kernel⟩
theorem ok_refT {f fT C : Addr} {fd fdT : FuncData} (F : Fun K "refuse_no_tree" "refuse_no_tree" sRefT f fd) (ex : Exc K mg "NoTree" C) (Tr : Callee P w K mg base CX0 5 "is_tree" fT fdT ["thing"] spTree) : FnOk P w K mg base (CXE P w) 6 f fd ["thing"] (spRefT C) := by
  refine F.okE scRefT (fun vs H Q E h => ?_) (fun cdv A outer s H vs Q E hr hh h => ?_)
  · obtain ⟨x, t, rfl, _⟩ := h
    rfl
  · obtain ⟨x, t, rfl, hA, hz, h⟩ := h
    refine ⟨_, (pss_one (ps_if (pt_not (pt_val (pe_call Tr.ok hr rfl Tr.bound Tr.kp Tr.bd .nil pass0 (pa_cons (pv 0) pa_nil))))
      (pss_one (ps_raise ex hh rfl (pa_cons pe_str pa_nil)))
      pss_nil)), ?_⟩
    refine ⟨_, rfl, x, t, rfl, hA, small_of t hz, fun b H1 S1 hb => ?_⟩
    rcases h with ⟨iT, q⟩ | ⟨nT, qe⟩
    · have e : b = true := hb.mpr iT
      subst e
      exact ⟨_, rfl, iteF (q H1 S1)⟩
    · have e : b = false := by cases b with | false => rfl | true => exact absurd (hb.mp rfl) nT
      subst e
      exact ⟨_, rfl, iteT ⟨by show 1 ≤ sizeLine; decide, qe H1 S1⟩⟩
theorem scBoxes : FnScope ["tree"] ["tree"] (defScope sBoxes) := ⟨rfl, rfl, rfl, by decide +kernel, rfl, by decide +kernel, by decide +kernel⟩
theorem ok_boxes {f fR fN C : Addr} {fd fdR fdN : FuncData} (F : Fun K "boxes_of" "boxes_of" sBoxes f fd) (tl : mg "len" = none) (Re : Callee P w K mg base (CXE P w) 6 "refuse_no_tree" fR fdR ["thing"] (spRefT C)) (Nu : Callee P w K mg base CX0 4 "numbers_in" fN fdN ["thing"] spNum) : FnOk P w K mg base (CXE P w) 7 f fd ["tree"] (spBoxes C) := by
  refine F.okE scBoxes (fun vs H Q E h => ?_) (fun cdv A outer s H vs Q E hr hh h => ?_)
  · obtain ⟨x, t, rfl, _⟩ := h
    rfl
  · obtain ⟨x, t, rfl, hA, hz, h⟩ := h
    refine ⟨_, (pss_cons (ps_expr (pe_call Re.ok hr rfl Re.bound Re.kp Re.bd .nil passEE (pa_cons (pv 0) pa_nil)))
      (pss_one (ps_ret (pe_callB call_len_seq (by rfl) tl PySem.boot_len (pa_cons (pe_call Nu.ok (hr.mono (show 4 ≤ 6 by decide)) rfl Nu.bound Nu.kp Nu.bd .nil pass0 (pa_cons (pv 0) pa_nil)) pa_nil))))), ?_⟩
    rcases h with ⟨n, iT, g, q⟩ | ⟨nT, qe⟩
    · refine ⟨_, rfl, x, t, rfl, hA, hz, .inl ⟨iT, fun H1 S1 => ?_⟩⟩
      refine ⟨_, rfl, x, t, rfl, hA.same S1, small_of t hz, fun r l H2 S2 nl hl lr tell => ⟨l, _, rfl, .inl (SqL.of hl), ?_⟩⟩
      rw [List.length_map]
      rcases tell with ⟨y, gy, _, py⟩ | ⟨_, no⟩
      · rw [py.length_eq, Good.uniq gy g]
        exact q H2 (S1.trans S2)
      · exact absurd (no n g) (by have := (iT.okN g).2; omega)
    · exact ⟨_, rfl, x, t, rfl, hA, hz, .inr ⟨nT, qe⟩⟩
end
end JH
set_option Elab.async false
set_option linter.all false
set_option maxRecDepth 100000
namespace Sta
open Lin
abbrev S := List (Nat × Nat)
abbrev R := Nat → Nat → Prop
def Lt (p q : Nat × Nat) : Prop := p.1 < q.1 ∧ q.2 < p.2
def Ok (A : S) : Prop := A.Pairwise Lt ∧ ∀ p ∈ A, 1 ≤ p.1 ∧ 1 ≤ p.2
def reg (A : S) : R := fun w h => ∃ p, p ∈ A ∧ p.1 ≤ w ∧ p.2 ≤ h
structure Up (P : R) : Prop where
  up : ∀ {w h w' h'}, P w h → w ≤ w' → h ≤ h' → P w' h'
  pos : ∀ {w h}, P w h → 1 ≤ w ∧ 1 ≤ h
def Same (P Q : R) : Prop := ∀ w h, P w h ↔ Q w h
theorem Same.trans {P Q U : R} (h : Same P Q) (k : Same Q U) : Same P U := fun w j => (h w j).trans (k w j)
def bes (P Q : R) : R := fun w h => ∃ a b, a + b ≤ w ∧ P a h ∧ Q b h
def dwn (P Q : R) : R := fun w h => ∃ a b, a + b ≤ h ∧ P w a ∧ Q w b
theorem bes_same {P P' Q Q' : R} (h : Same P P') (k : Same Q Q') : Same (bes P Q) (bes P' Q') := fun w j => by
  constructor
  · rintro ⟨a, b, e, x, y⟩
    exact ⟨a, b, e, (h _ _).mp x, (k _ _).mp y⟩
  · rintro ⟨a, b, e, x, y⟩
    exact ⟨a, b, e, (h _ _).mpr x, (k _ _).mpr y⟩
theorem bes_up {P Q : R} (h : Up P) (k : Up Q) : Up (bes P Q) := ⟨fun ⟨a, b, e, x, y⟩ u v => ⟨a, b, Nat.le_trans e u, h.up x (Nat.le_refl _) v, k.up y (Nat.le_refl _) v⟩, fun ⟨a, b, e, x, y⟩ => by
  have := h.pos x
  omega⟩
theorem dwn_up {P Q : R} (h : Up P) (k : Up Q) : Up (dwn P Q) := ⟨fun ⟨a, b, e, x, y⟩ u v => ⟨a, b, Nat.le_trans e v, h.up x u (Nat.le_refl _), k.up y u (Nat.le_refl _)⟩, fun ⟨a, b, e, x, y⟩ => by
  have := h.pos x
  omega⟩
def sbs : S → S → S
  | a :: as, b :: bs => (a.1 + b.1, max a.2 b.2) :: (if a.2 = max a.2 b.2 then (if b.2 = max a.2 b.2 then sbs as bs else sbs as (b :: bs)) else sbs (a :: as) bs)
  | [], _ => []
  | _ :: _, [] => []
termination_by a b => a.length + b.length
decreasing_by all_goals simp_wf <;> omega
theorem sbs_cons (a : Nat × Nat) (as : S) (b : Nat × Nat) (bs : S) : sbs (a :: as) (b :: bs) = (a.1 + b.1, max a.2 b.2) :: (if a.2 = max a.2 b.2 then (if b.2 = max a.2 b.2 then sbs as bs else sbs as (b :: bs)) else sbs (a :: as) bs) := by
  rw [sbs]
theorem sbs_nil (b : S) : sbs [] b = [] := by rw [sbs]
theorem sbs_nil' (a : S) : sbs a [] = [] := by cases a <;> rw [sbs]
theorem ind {C : S → S → Prop} (h1 : ∀ b, C [] b) (h2 : ∀ a as, C (a :: as) []) (h3 : ∀ a as b bs, C as bs → C as (b :: bs) → C (a :: as) bs → C (a :: as) (b :: bs)) : ∀ n A B, A.length + B.length ≤ n → C A B
  | n, [], B, _ => h1 B
  | n, a :: as, [], _ => h2 a as
  | 0, a :: as, b :: bs, h => by simp at h
  | n + 1, a :: as, b :: bs, h => by
    simp only [List.length_cons] at h
    exact h3 a as b bs (ind h1 h2 h3 n as bs (by omega)) (ind h1 h2 h3 n as (b :: bs) (by simp only [List.length_cons]; omega)) (ind h1 h2 h3 n (a :: as) bs (by simp only [List.length_cons]; omega))
theorem ind' {C : S → S → Prop} (h1 : ∀ b, C [] b) (h2 : ∀ a as, C (a :: as) []) (h3 : ∀ a as b bs, C as bs → C as (b :: bs) → C (a :: as) bs → C (a :: as) (b :: bs)) (A B : S) : C A B := ind h1 h2 h3 _ A B (Nat.le_refl _)
theorem sbs_mem (A B : S) : ∀ z ∈ sbs A B, ∃ x y, x ∈ A ∧ y ∈ B ∧ z = (x.1 + y.1, max x.2 y.2) := by
  refine ind' (C := fun A B => ∀ z ∈ sbs A B, ∃ x y, x ∈ A ∧ y ∈ B ∧ z = (x.1 + y.1, max x.2 y.2)) (fun b z hz => ?_) (fun a as z hz => ?_) (fun a as b bs i1 i2 i3 z hz => ?_) A B
  · rw [sbs_nil] at hz
    exact (List.not_mem_nil hz).elim
  · rw [sbs_nil'] at hz
    exact (List.not_mem_nil hz).elim
  · rw [sbs_cons] at hz
    rcases List.mem_cons.mp hz with e | e
    · exact ⟨a, b, List.mem_cons_self, List.mem_cons_self, e⟩
    · split at e
      · split at e
        · obtain ⟨x, y, hx, hy, e⟩ := i1 z e
          exact ⟨x, y, List.mem_cons_of_mem _ hx, List.mem_cons_of_mem _ hy, e⟩
        · obtain ⟨x, y, hx, hy, e⟩ := i2 z e
          exact ⟨x, y, List.mem_cons_of_mem _ hx, hy, e⟩
      · obtain ⟨x, y, hx, hy, e⟩ := i3 z e
        exact ⟨x, y, hx, List.mem_cons_of_mem _ hy, e⟩
theorem Ok.tail {a : Nat × Nat} {as : S} (h : Ok (a :: as)) : Ok as := ⟨(List.pairwise_cons.mp h.1).2, fun p hp => h.2 p (List.mem_cons_of_mem _ hp)⟩
theorem Ok.head {a : Nat × Nat} {as : S} (h : Ok (a :: as)) : ∀ x ∈ as, a.1 < x.1 ∧ x.2 < a.2 := (List.pairwise_cons.mp h.1).1
theorem Ok.all {a : Nat × Nat} {as : S} (h : Ok (a :: as)) : ∀ x ∈ a :: as, a.1 ≤ x.1 ∧ x.2 ≤ a.2 := fun x hx => by
  rcases List.mem_cons.mp hx with e | e
  · rw [e]; exact ⟨Nat.le_refl _, Nat.le_refl _⟩
  · have := h.head x e
    omega
theorem sbs_ok (A B : S) : Ok A → Ok B → Ok (sbs A B) := by
  refine ind' (C := fun A B => Ok A → Ok B → Ok (sbs A B)) (fun b _ _ => ?_) (fun a as _ _ => ?_) (fun a as b bs i1 i2 i3 hA hB => ?_) A B
  · rw [sbs_nil]
    exact ⟨List.Pairwise.nil, fun p hp => (List.not_mem_nil hp).elim⟩
  · rw [sbs_nil']
    exact ⟨List.Pairwise.nil, fun p hp => (List.not_mem_nil hp).elim⟩
  · rw [sbs_cons]
    have pa := hA.2 a List.mem_cons_self
    have pb := hB.2 b List.mem_cons_self
    have fin : ∀ L : S, Ok L → (∀ z ∈ L, a.1 + b.1 < z.1 ∧ z.2 < max a.2 b.2) → Ok ((a.1 + b.1, max a.2 b.2) :: L) := fun L o h => ⟨List.pairwise_cons.mpr ⟨h, o.1⟩, fun p hp => by
      rcases List.mem_cons.mp hp with e | e
      · rw [e]
        exact ⟨show 1 ≤ a.1 + b.1 by omega, show 1 ≤ max a.2 b.2 by omega⟩
      · exact o.2 p e⟩
    split
    · split
      · refine fin _ (i1 hA.tail hB.tail) fun z hz => ?_
        obtain ⟨x, y, hx, hy, e⟩ := sbs_mem _ _ z hz
        have := hA.head x hx
        have := hB.head y hy
        rw [e]
        show a.1 + b.1 < x.1 + y.1 ∧ max x.2 y.2 < max a.2 b.2
        omega
      · refine fin _ (i2 hA.tail hB) fun z hz => ?_
        obtain ⟨x, y, hx, hy, e⟩ := sbs_mem _ _ z hz
        have := hA.head x hx
        have := hB.all y hy
        rw [e]
        show a.1 + b.1 < x.1 + y.1 ∧ max x.2 y.2 < max a.2 b.2
        omega
    · refine fin _ (i3 hA hB.tail) fun z hz => ?_
      obtain ⟨x, y, hx, hy, e⟩ := sbs_mem _ _ z hz
      have := hA.all x hx
      have := hB.head y hy
      rw [e]
      show a.1 + b.1 < x.1 + y.1 ∧ max x.2 y.2 < max a.2 b.2
      omega
theorem sbs_up (A B : S) : Ok A → Ok B → ∀ x ∈ A, ∀ y ∈ B, ∀ w h, x.1 + y.1 ≤ w → x.2 ≤ h → y.2 ≤ h → reg (sbs A B) w h := by
  refine ind' (C := fun A B => Ok A → Ok B → ∀ x ∈ A, ∀ y ∈ B, ∀ w h, x.1 + y.1 ≤ w → x.2 ≤ h → y.2 ≤ h → reg (sbs A B) w h) (fun b _ _ x hx => (List.not_mem_nil hx).elim) (fun a as _ _ x _ y hy => (List.not_mem_nil hy).elim) (fun a as b bs i1 i2 i3 hA hB x hx y hy w h e1 e2 e3 => ?_) A B
  rw [sbs_cons]
  have ax := hA.all x hx
  have by' := hB.all y hy
  by_cases c : max a.2 b.2 ≤ h
  · exact ⟨_, List.mem_cons_self, show a.1 + b.1 ≤ w by omega, c⟩
  · have up : ∀ L : S, reg L w h → reg ((a.1 + b.1, max a.2 b.2) :: L) w h := fun L ⟨p, m, z⟩ => ⟨p, List.mem_cons_of_mem _ m, z⟩
    refine up _ ?_
    have xa : a.2 = max a.2 b.2 → x ∈ as := fun z => by
      rcases List.mem_cons.mp hx with e | e
      · rw [e] at e2; omega
      · exact e
    have yb : b.2 = max a.2 b.2 → y ∈ bs := fun z => by
      rcases List.mem_cons.mp hy with e | e
      · rw [e] at e3; omega
      · exact e
    split
    · rename_i c1
      split
      · rename_i c2
        exact i1 hA.tail hB.tail x (xa c1) y (yb c2) w h e1 e2 e3
      · exact i2 hA.tail hB x (xa c1) y hy w h e1 e2 e3
    · exact i3 hA hB.tail x hx y (yb (by omega)) w h e1 e2 e3
theorem sbs_reg {A B : S} (hA : Ok A) (hB : Ok B) : Same (reg (sbs A B)) (bes (reg A) (reg B)) := fun w h => by
  constructor
  · rintro ⟨z, m, e1, e2⟩
    obtain ⟨x, y, hx, hy, rfl⟩ := sbs_mem A B z m
    have e1 : x.1 + y.1 ≤ w := e1
    have e2 : max x.2 y.2 ≤ h := e2
    exact ⟨x.1, y.1, e1, ⟨x, hx, Nat.le_refl _, by omega⟩, ⟨y, hy, Nat.le_refl _, by omega⟩⟩
  · rintro ⟨a, b, e, ⟨x, hx, x1, x2⟩, ⟨y, hy, y1, y2⟩⟩
    exact sbs_up A B hA hB x hx y hy w h (by omega) x2 y2
def exch (A : S) : S := A.reverse.map fun p => (p.2, p.1)
theorem exch_mem {A : S} {z : Nat × Nat} : z ∈ exch A ↔ (z.2, z.1) ∈ A := by
  unfold exch
  rw [List.mem_map]
  constructor
  · rintro ⟨p, hp, rfl⟩
    exact List.mem_reverse.mp hp
  · intro h
    exact ⟨_, List.mem_reverse.mpr h, rfl⟩
theorem exch_ok {A : S} (h : Ok A) : Ok (exch A) := by
  refine ⟨?_, fun p hp => ?_⟩
  · unfold exch
    rw [List.pairwise_map, List.pairwise_reverse]
    exact h.1.imp fun ⟨a, b⟩ => ⟨b, a⟩
  · have := h.2 _ (exch_mem.mp hp)
    exact ⟨this.2, this.1⟩
theorem exch_reg (A : S) : ∀ w h, reg (exch A) w h ↔ reg A h w := fun w h => by
  constructor
  · rintro ⟨p, m, a, b⟩
    exact ⟨_, exch_mem.mp m, b, a⟩
  · rintro ⟨p, m, a, b⟩
    exact ⟨(p.2, p.1), exch_mem.mpr m, b, a⟩
def Low (P : R) (w : Nat) : Option Nat → Prop
  | none => ∀ h, ¬ P w h
  | some v => P w v ∧ ∀ h, P w h → v ≤ h
theorem Low.of {P Q : R} (s : Same P Q) {w : Nat} : ∀ {o : Option Nat}, Low P w o → Low Q w o
  | none, l => fun h z => l h ((s _ _).mpr z)
  | some v, l => ⟨(s _ _).mp l.1, fun h z => l.2 h ((s _ _).mpr z)⟩
theorem Low.uniq {P : R} {w : Nat} : ∀ {a b : Option Nat}, Low P w a → Low P w b → a = b
  | none, none, _, _ => rfl
  | none, some v, h, k => (h v k.1).elim
  | some v, none, h, k => (k v h.1).elim
  | some v, some u, h, k => by rw [Nat.le_antisymm (h.2 u k.1) (k.2 v h.1)]
def leafR (ws : List W) : R := fun w h => 1 ≤ w ∧ (∀ u ∈ ws, u.length ≤ w) ∧ max 1 (cnt ws (w : Int)) ≤ h
theorem leaf_up (ws : List W) : Up (leafR ws) := ⟨fun ⟨a, b, c⟩ x y => ⟨by omega, fun u hu => Nat.le_trans (b u hu) x, by
  have := cnt_anti (ws := ws) (v := (_ : Nat)) (v' := (_ : Nat)) (Int.ofNat_le.mpr x) fun u hu => Int.ofNat_le.mpr (b u hu)
  omega⟩, fun ⟨a, b, c⟩ => by omega⟩
def stN (ws : List W) : S := (stairs ws).map fun p => (p.1.toNat, p.2)
theorem falls_ok {c : Int → Nat} {lo : Int} (h0 : 1 ≤ lo) : ∀ k : Nat, (∀ j : Nat, j < k → c (lo + (j + 1 : Nat)) ≤ c (lo + j)) → (∀ j : Nat, j ≤ k → 1 ≤ c (lo + j)) →
    Ok ((falls c lo k).map fun p => (p.1.toNat, p.2)) ∧ (∀ p ∈ falls c lo k, lo ≤ p.1 ∧ p.1 ≤ lo + k ∧ c (lo + k) ≤ p.2) ∧ ∀ w h : Nat, reg ((falls c lo k).map fun p => (p.1.toNat, p.2)) w h ↔ ∃ j : Nat, j ≤ k ∧ lo + j ≤ w ∧ c (lo + j) ≤ h
  | 0, _, hp => by
    have e0 : lo + ((0 : Nat) : Int) = lo := Int.add_zero _
    have p0 := hp 0 (Nat.le_refl _)
    rw [e0] at p0
    refine ⟨⟨List.pairwise_singleton _ _, fun p hp => ?_⟩, fun p hp => ?_, fun w h => ?_⟩
    · have hp : p = (lo.toNat, c lo) := List.mem_singleton.mp hp
      rw [hp]
      exact ⟨show 1 ≤ lo.toNat by omega, p0⟩
    · have hp : p = (lo, c lo) := List.mem_singleton.mp hp
      rw [hp, e0]
      exact ⟨Int.le_refl _, Int.le_refl _, Nat.le_refl _⟩
    · constructor
      · rintro ⟨p, hp, a, b⟩
        have hp : p = (lo.toNat, c lo) := List.mem_singleton.mp hp
        rw [hp] at a b
        have a : lo.toNat ≤ w := a
        exact ⟨0, Nat.le_refl _, by omega, by rw [e0]; exact b⟩
      · rintro ⟨j, hj, a, b⟩
        have : j = 0 := by omega
        subst this
        rw [e0] at a b
        exact ⟨(lo.toNat, c lo), List.mem_singleton.mpr rfl, show lo.toNat ≤ w by omega, b⟩
  | k + 1, ha, hp => by
    obtain ⟨i1, i2, i3⟩ := falls_ok (c := c) (lo := lo) h0 k (fun j hj => ha j (by omega)) (fun j hj => hp j (by omega))
    have hs := ha k (Nat.lt_succ_self _)
    show Ok ((if c (lo + (k + 1 : Nat)) < c (lo + k) then falls c lo k ++ [(lo + (k + 1 : Nat), c (lo + (k + 1 : Nat)))] else falls c lo k).map fun p => (p.1.toNat, p.2)) ∧ (∀ p ∈ (if c (lo + (k + 1 : Nat)) < c (lo + k) then falls c lo k ++ [(lo + (k + 1 : Nat), c (lo + (k + 1 : Nat)))] else falls c lo k), lo ≤ p.1 ∧ p.1 ≤ lo + (k + 1 : Nat) ∧ c (lo + (k + 1 : Nat)) ≤ p.2) ∧ ∀ w h : Nat, reg ((if c (lo + (k + 1 : Nat)) < c (lo + k) then falls c lo k ++ [(lo + (k + 1 : Nat), c (lo + (k + 1 : Nat)))] else falls c lo k).map fun p => (p.1.toNat, p.2)) w h ↔ ∃ j : Nat, j ≤ k + 1 ∧ lo + j ≤ w ∧ c (lo + j) ≤ h
    by_cases d : c (lo + (k + 1 : Nat)) < c (lo + k)
    · rw [if_pos d]
      refine ⟨⟨?_, fun p hp' => ?_⟩, fun p hp' => ?_, fun w h => ?_⟩
      · rw [List.map_append, List.pairwise_append]
        refine ⟨i1.1, List.pairwise_singleton _ _, fun a ha' b hb => ?_⟩
        have hb : b = ((lo + (k + 1 : Nat)).toNat, c (lo + (k + 1 : Nat))) := List.mem_singleton.mp hb
        obtain ⟨p, hp', rfl⟩ := List.mem_map.mp ha'
        have := i2 p hp'
        rw [hb]
        exact ⟨show p.1.toNat < (lo + (k + 1 : Nat)).toNat by omega, show c (lo + (k + 1 : Nat)) < p.2 by omega⟩
      · rw [List.map_append] at hp'
        rcases List.mem_append.mp hp' with e | e
        · exact i1.2 p e
        · have e : p = ((lo + (k + 1 : Nat)).toNat, c (lo + (k + 1 : Nat))) := List.mem_singleton.mp e
          rw [e]
          exact ⟨show 1 ≤ (lo + (k + 1 : Nat)).toNat by omega, hp (k + 1) (Nat.le_refl _)⟩
      · rcases List.mem_append.mp hp' with e | e
        · have := i2 p e
          exact ⟨this.1, by omega, by omega⟩
        · rw [List.mem_singleton.mp e]
          exact ⟨show lo ≤ lo + (k + 1 : Nat) by omega, Int.le_refl _, Nat.le_refl _⟩
      · rw [List.map_append]
        constructor
        · rintro ⟨p, hp', a, b⟩
          rcases List.mem_append.mp hp' with e | e
          · obtain ⟨j, x, y⟩ := (i3 w h).mp ⟨p, e, a, b⟩
            exact ⟨j, by omega, y⟩
          · have e : p = ((lo + (k + 1 : Nat)).toNat, c (lo + (k + 1 : Nat))) := List.mem_singleton.mp e
            rw [e] at a b
            have a : (lo + (k + 1 : Nat)).toNat ≤ w := a
            exact ⟨k + 1, Nat.le_refl _, by omega, b⟩
        · rintro ⟨j, x, y, z⟩
          rcases Nat.lt_or_eq_of_le x with e | e
          · obtain ⟨p, q1, q2⟩ := (i3 w h).mpr ⟨j, by omega, y, z⟩
            exact ⟨p, List.mem_append_left _ q1, q2⟩
          · subst e
            exact ⟨((lo + (k + 1 : Nat)).toNat, c (lo + (k + 1 : Nat))), List.mem_append_right _ (List.mem_singleton.mpr rfl), show (lo + (k + 1 : Nat)).toNat ≤ w by omega, z⟩
    · rw [if_neg d]
      refine ⟨i1, fun p hp' => ?_, fun w h => ?_⟩
      · have := i2 p hp'
        exact ⟨this.1, by omega, by omega⟩
      · rw [i3]
        constructor
        · rintro ⟨j, x, y⟩
          exact ⟨j, by omega, y⟩
        · rintro ⟨j, x, y, z⟩
          rcases Nat.lt_or_eq_of_le x with e | e
          · exact ⟨j, by omega, y, z⟩
          · subst e
            exact ⟨k, Nat.le_refl _, by omega, by omega⟩
theorem fits_wid {ws : List W} {w : Nat} : (∀ u ∈ ws, u.length ≤ w) ↔ wid ws ≤ w := by
  constructor
  · intro h
    by_cases e : ws = []
    · subst e
      exact Nat.zero_le _
    · obtain ⟨u, hu, e⟩ := wid_mem e
      have := h u hu
      omega
  · intro h u hu
    exact Nat.le_trans (wid_le hu) h
theorem st_ok {ws : List W} (h1 : ∀ u ∈ ws, 1 ≤ u.length) : Ok (stN ws) ∧ Same (reg (stN ws)) (leafR ws) := by
  unfold stN stairs
  by_cases e : ws = []
  · subst e
    rw [if_pos rfl]
    refine ⟨⟨List.pairwise_singleton _ _, fun p hp => ?_⟩, fun w h => ?_⟩
    · have hp : p = (1, 1) := List.mem_singleton.mp hp
      rw [hp]
      exact ⟨Nat.le_refl _, Nat.le_refl _⟩
    · have c0 : cnt [] (w : Int) = 0 := Nat.le_zero.mp (cnt_le [] _)
      constructor
      · rintro ⟨p, hp, a, b⟩
        have hp : p = (1, 1) := List.mem_singleton.mp hp
        rw [hp] at a b
        exact ⟨a, fun u hu => (List.not_mem_nil hu).elim, by rw [c0]; exact b⟩
      · rintro ⟨a, _, b⟩
        rw [c0] at b
        exact ⟨(1, 1), List.mem_singleton.mpr rfl, a, b⟩
  · rw [if_neg e]
    obtain ⟨u, hu, eu⟩ := wid_mem e
    have w1 : 1 ≤ wid ws := by rw [← eu]; exact h1 u hu
    have wt := wid_total e
    have fit : ∀ v : Int, (wid ws : Int) ≤ v → ∀ u ∈ ws, (u.length : Int) ≤ v := fun v hv u hu => Int.le_trans (Int.ofNat_le.mpr (wid_le hu)) hv
    obtain ⟨k1, k2, k3⟩ := falls_ok (c := cnt ws) (lo := (wid ws : Int)) (by omega) (total ws - wid ws).toNat (fun j _ => cnt_anti (by omega) (fit _ (by omega))) (fun j _ => cnt_pos e _)
    refine ⟨k1, fun w h => ?_⟩
    rw [k3]
    constructor
    · rintro ⟨j, x, y, z⟩
      refine ⟨by omega, fits_wid.mpr (by omega), ?_⟩
      have a := cnt_anti (ws := ws) (v := (wid ws : Int) + j) (v' := (w : Int)) y (fit _ (by omega))
      have b := cnt_pos e ((wid ws : Int) + j)
      omega
    · rintro ⟨a, b, c⟩
      have b := fits_wid.mp b
      by_cases t : (w : Int) ≤ total ws
      · refine ⟨w - wid ws, by omega, by omega, ?_⟩
        rw [show (wid ws : Int) + ((w - wid ws : Nat) : Int) = (w : Int) by omega]
        omega
      · refine ⟨(total ws - wid ws).toNat, Nat.le_refl _, by omega, ?_⟩
        have := cnt_total (ws := ws) ((wid ws : Int) + ((total ws - wid ws).toNat : Int)) (by omega)
        omega
end Sta
set_option Elab.async false
set_option linter.all false
set_option maxRecDepth 100000
namespace Sta
open Tre Lin
mutual
inductive HasR (Ls : List R) : T → R → Prop where
  | leaf {i : Int} {P : R} (h0 : 0 ≤ i) (h : Ls[i.toNat]? = some P) : HasR Ls (.int i) P
  | bar {ps : List T} {P : R} {Ps : List R} (h : HasRL Ls ps (P :: Ps)) : HasR Ls (.tup [.str bar, .tup ps]) (Ps.foldl bes P)
  | dash {ps : List T} {P : R} {Ps : List R} (h : HasRL Ls ps (P :: Ps)) : HasR Ls (.tup [.str dash, .tup ps]) (Ps.foldl dwn P)
inductive HasRL (Ls : List R) : List T → List R → Prop where
  | nil : HasRL Ls [] []
  | cons {t : T} {P : R} {ts : List T} {Ps : List R} (h : HasR Ls t P) (r : HasRL Ls ts Ps) : HasRL Ls (t :: ts) (P :: Ps)
end
theorem HasRL.len {Ls : List R} : ∀ {ts : List T} {Ps : List R}, HasRL Ls ts Ps → ts.length = Ps.length
  | _, _, .nil => rfl
  | _, _, .cons _ r => by rw [List.length_cons, List.length_cons, r.len]
theorem HasRL.get {Ls : List R} : ∀ {ts : List T} {Ps : List R} {i : Nat} {t : T}, HasRL Ls ts Ps → ts[i]? = some t → ∃ P, Ps[i]? = some P ∧ HasR Ls t P
  | _, _, _, _, .nil, e => by simp at e
  | _, _, 0, _, .cons h _, e => by simp at e; subst e; exact ⟨_, rfl, h⟩
  | _, _, i + 1, t, .cons _ r, e => by
    obtain ⟨P, h1, h2⟩ := HasRL.get (i := i) (t := t) r (by simpa using e)
    exact ⟨P, by simpa using h1, h2⟩
mutual
theorem hasR_of {Ls : List R} : ∀ {t : T} {n : List Int}, Good t n → (∀ i ∈ n, 0 ≤ i ∧ i < (Ls.length : Int)) → ∃ P, HasR Ls t P
  | _, _, .leaf i, h => by
    have := h i List.mem_cons_self
    exact ⟨_, .leaf this.1 (List.getElem?_eq_getElem (by omega))⟩
  | _, _, .node (k := k) (ps := ps) hk h2 hn hl, h => by
    obtain ⟨Ps, hP⟩ := hasRL_of hl h
    have ln := hP.len
    cases Ps with
    | nil => rw [List.length_nil] at ln; omega
    | cons P Ps =>
      rcases hk with e | e
      · rw [e]
        exact ⟨_, .bar hP⟩
      · rw [e]
        exact ⟨_, .dash hP⟩
theorem hasRL_of {Ls : List R} : ∀ {ts : List T} {nss : List (List Int)}, GoodL ts nss → (∀ i ∈ nss.flatten, 0 ≤ i ∧ i < (Ls.length : Int)) → ∃ Ps, HasRL Ls ts Ps
  | _, _, .nil, _ => ⟨[], .nil⟩
  | _, _, .cons h r, hn => by
    obtain ⟨P, hP⟩ := hasR_of h fun i hi => hn i (by rw [List.flatten_cons]; exact List.mem_append_left _ hi)
    obtain ⟨Ps, hPs⟩ := hasRL_of r fun i hi => hn i (by rw [List.flatten_cons]; exact List.mem_append_right _ hi)
    exact ⟨P :: Ps, .cons hP hPs⟩
end
theorem fold_up {f : R → R → R} (hf : ∀ P Q, Up P → Up Q → Up (f P Q)) : ∀ (Ps : List R) (P : R), Up P → (∀ Q ∈ Ps, Up Q) → Up (Ps.foldl f P)
  | [], P, h, _ => h
  | Q :: Ps, P, h, k => fold_up hf Ps (f P Q) (hf P Q h (k Q List.mem_cons_self)) fun U hU => k U (List.mem_cons_of_mem _ hU)
mutual
theorem HasR.up {Ls : List R} (hL : ∀ L ∈ Ls, Up L) : ∀ {t : T} {P : R}, HasR Ls t P → Up P
  | _, _, .leaf _ h => hL _ (List.mem_of_getElem? h)
  | _, _, .bar h => fold_up (fun _ _ a b => bes_up a b) _ _ (HasRL.up hL h _ List.mem_cons_self) fun Q hQ => HasRL.up hL h Q (List.mem_cons_of_mem _ hQ)
  | _, _, .dash h => fold_up (fun _ _ a b => dwn_up a b) _ _ (HasRL.up hL h _ List.mem_cons_self) fun Q hQ => HasRL.up hL h Q (List.mem_cons_of_mem _ hQ)
theorem HasRL.up {Ls : List R} (hL : ∀ L ∈ Ls, Up L) : ∀ {ts : List T} {Ps : List R}, HasRL Ls ts Ps → ∀ P ∈ Ps, Up P
  | _, _, .nil, P, hP => (List.not_mem_nil hP).elim
  | _, _, .cons h r, P, hP => by
    rcases List.mem_cons.mp hP with e | e
    · rw [e]; exact HasR.up hL h
    · exact HasRL.up hL r P e
end
def OkS (A : S) (P : R) : Prop := Ok A ∧ Same (reg A) P
inductive OkSs : List S → List R → Prop where
  | nil : OkSs [] []
  | cons {A : S} {P : R} {As : List S} {Ps : List R} (h : OkS A P) (r : OkSs As Ps) : OkSs (A :: As) (P :: Ps)
theorem OkSs.snoc : ∀ {As : List S} {Ps : List R} {A : S} {P : R}, OkSs As Ps → OkS A P → OkSs (As ++ [A]) (Ps ++ [P])
  | _, _, _, _, .nil, h => .cons h .nil
  | _, _, _, _, .cons k r, h => .cons k (OkSs.snoc r h)
theorem OkSs.get : ∀ {As : List S} {Ps : List R} {i : Nat} {P : R}, OkSs As Ps → Ps[i]? = some P → ∃ A, As[i]? = some A ∧ OkS A P
  | _, _, _, _, .nil, e => by simp at e
  | _, _, 0, _, .cons h _, e => by simp at e; subst e; exact ⟨_, rfl, h⟩
  | _, _, i + 1, P, .cons _ r, e => by
    obtain ⟨A, h1, h2⟩ := OkSs.get (i := i) (P := P) r (by simpa using e)
    exact ⟨A, by simpa using h1, h2⟩
theorem fold_sbs : ∀ {As : List S} {Ps : List R} {A : S} {P : R}, OkSs As Ps → OkS A P → OkS (As.foldl sbs A) (Ps.foldl bes P)
  | _, _, _, _, .nil, h => h
  | _, _, A, P, .cons (A := B) (P := Q) k r, h => by
    rw [List.foldl_cons, List.foldl_cons]
    exact fold_sbs (A := sbs A B) (P := bes P Q) r ⟨sbs_ok _ _ h.1 k.1, (sbs_reg h.1 k.1).trans (bes_same h.2 k.2)⟩
def tr (P : R) : R := fun w h => P h w
theorem OkS.exch {A : S} {P : R} (h : OkS A P) : OkS (exch A) (tr P) := ⟨exch_ok h.1, fun w k => (exch_reg A w k).trans (h.2 k w)⟩
theorem OkSs.exch : ∀ {As : List S} {Ps : List R}, OkSs As Ps → OkSs (As.map Sta.exch) (Ps.map tr)
  | _, _, .nil => .nil
  | _, _, .cons h r => .cons h.exch (OkSs.exch r)
theorem fold_tr : ∀ (Ps : List R) (P : R), tr ((Ps.map tr).foldl bes (tr P)) = Ps.foldl dwn P
  | [], P => rfl
  | Q :: Ps, P => fold_tr Ps (dwn P Q)
theorem sbs_len (A B : S) : (sbs A B).length ≤ A.length + B.length := by
  refine ind' (C := fun A B => (sbs A B).length ≤ A.length + B.length) (fun b => ?_) (fun a as => ?_) (fun a as b bs i1 i2 i3 => ?_) A B
  · rw [sbs_nil]; exact Nat.zero_le _
  · rw [sbs_nil']; exact Nat.zero_le _
  · rw [sbs_cons, List.length_cons, List.length_cons, List.length_cons]
    rw [List.length_cons] at i2 i3
    split
    · split <;> omega
    · omega
theorem fold_len : ∀ (As : List S) (A : S), (As.foldl sbs A).length ≤ A.length + (As.map List.length).sum
  | [], A => Nat.le_refl _
  | B :: As, A => by
    have := fold_len As (sbs A B)
    have := sbs_len A B
    rw [List.foldl_cons, List.map_cons, List.sum_cons]
    omega
theorem exch_len (A : S) : (exch A).length = A.length := by
  unfold exch
  rw [List.length_map, List.length_reverse]
theorem exch_lens (As : List S) : (As.map exch).map List.length = As.map List.length := by
  rw [List.map_map]
  exact List.map_congr_left fun A _ => exch_len A
end Sta
set_option Elab.async false
set_option linter.all false
set_option maxRecDepth 100000
namespace L2
open PySem PySem.Spec PyProof.Rows
section
variable {g : TG} {tc : TT} {te : TE} {σ0 : St} {H0 : Hp} {R : List V → Hp → Prop} {K : PySem.W.Frag} {a : Addr} {xs : List V}
theorem cmp_rev (Pv : Nat → List V → St → Hp → Prop) (h0 : Pv 0 [] σ0 H0) (hz : ∀ i ys σ H, i ≤ xs.length → Pv i ys σ H → ys.length ≤ sizeLine ∧ SqL K H a xs) (hst : ∀ ys σ H, Pv xs.length ys σ H → R ys H)
    (hgo : ∀ i x ys σ H, i < xs.length → xs[xs.length - 1 - i]? = some x → Pv i ys σ H → g x σ H fun σ2 H3 => tc σ2 H3 fun b H4 => if b = true then te σ2 H4 fun y H5 => Pv (i + 1) (ys ++ [y]) σ2 H5 else Pv (i + 1) ys σ2 H4) :
    ∃ W : Nat → Nat → List V → St → Hp → Prop, (∃ m, W 0 m [] σ0 H0) ∧ ∀ i m ys σ' H', W i m ys σ' H' →
      ((ItR K a xs.length).stop i H' ∧ ys.length ≤ sizeLine ∧ R ys H') ∨
      ((ItR K a xs.length).go i H' ∧ ys.length ≤ sizeLine ∧ ∃ N : List V → St → Hp → Prop, (∀ ys' σ2 H2, N ys' σ2 H2 → ∃ m', m' < m ∧ W (i + 1) m' ys' σ2 H2) ∧
        ∀ x H2, (ItR K a xs.length).yld i H' x H2 → g x σ' H2 fun σ2 H3 => tc σ2 H3 fun b H4 => if b = true then te σ2 H4 fun y H5 => N (ys ++ [y]) σ2 H5 else N ys σ2 H4) :=
  cmp_gen (n := xs.length) Pv h0 (fun i ys σ H hi p => (hz i ys σ H hi p).1) (fun ys σ H p => ⟨Nat.le_refl _, hst ys σ H p⟩)
    fun i ys σ H hi p => ⟨⟨hi, xs, (hz i ys σ H (Nat.le_of_lt hi) p).2, rfl⟩, fun x H2 y => by
      obtain ⟨e, y⟩ := y
      subst e
      exact hgo i x ys σ _ hi (y xs (hz i ys σ _ (Nat.le_of_lt hi) p).2) p⟩
end
def GT (mg : Str → Option Value) (x : Str) (v : Str) : Prop := ∃ t, mg x = some (.str v t)
theorem pe_gt {X : Cx} {x v : Str} {pos : Pos} (hg : Gl X x) (h : GT X.mg x v) (hd : (x == ("__debug__" : Str)) = false := by decide) : PE X (.Name x pos) (tC (.str v)) := by
  obtain ⟨t, h⟩ := h
  exact pe_glob hg h ⟨t, rfl⟩ hd
end L2
namespace L2
open PySem
end L2
namespace L2
open PySem
end L2
namespace L2
open PySem
theorem call_list_ofK {X : Cx} {K : PySem.W.Frag} (hK : X.K = K) : CallR X (.type "list") (fun xs H Q => ∃ p ys, xs = [.ref p] ∧ (SqL K H p ys ∨ SqT K H p ys) ∧ ∀ l, H l = none → Q (.ref l) (upd H l (.lst ys))) := by
  subst hK
  exact call_list_of
end L2
set_option Elab.async false
set_option linter.all false
set_option maxRecDepth 100000
set_option maxHeartbeats 1000000
namespace JH
open PySem L2 Lin Tre PySem.W
open Sta (R Ok sbs exch reg OkS OkSs stN)
abbrev Stc := Sta.S
def JT (H : Hp) (x : V) (b : Bool) : Prop := (∃ (a : Addr) (xs : List V) (bs : List Bool), x = .ref a ∧ H a = some (.lst xs) ∧ JWs H xs bs ∧ xs.length ≤ 1000 ∧ b = (bs.all id && decide (xs.length ≤ 40))) ∨ (b = false ∧ NoL H x)
theorem JT.same {H H' : Hp} (S : Same H H') {x : V} {b : Bool} (h : JT H x b) : JT H' x b := by
  rcases h with ⟨a, xs, bs, e, h1, h2, h3, h4⟩ | ⟨e, h⟩
  · exact .inl ⟨a, xs, bs, e, S _ _ h1, h2.same S, h3, h4⟩
  · exact .inr ⟨e, h.same S⟩
def JTs (H : Hp) : List V → List Bool → Prop := Paired (JT H)
theorem JTs.same {H H' : Hp} (S : Same H H') : ∀ {vs : List V} {bs : List Bool}, JTs H vs bs → JTs H' vs bs
  | _, _, .nil => .nil
  | _, _, .cons h t => .cons (h.same S) (JTs.same S t)
theorem JTs.len {H : Hp} {vs : List V} {bs : List Bool} (h : JTs H vs bs) : vs.length = bs.length := Paired.length h
theorem JTs.get {H : Hp} : ∀ {vs : List V} {bs : List Bool} {i : Nat} {v : V}, JTs H vs bs → vs[i]? = some v → ∃ b, bs[i]? = some b ∧ JT H v b
  | _, _, _, _, .nil, e => by simp at e
  | _, _, 0, _, .cons r _, e => by simp at e; subst e; exact ⟨_, rfl, r⟩
  | _, _, i + 1, v, .cons _ t, e => by
    obtain ⟨p, h1, h2⟩ := JTs.get (i := i) (v := v) t (by simpa using e)
    exact ⟨p, by simpa using h1, h2⟩
def Tx (H : Hp) (v : V) (ws : List W) : Prop := ∃ a, v = .ref a ∧ H a = some (.lst (tx ws)) ∧ (∀ u ∈ ws, okW u) ∧ ws.length ≤ 40
theorem Tx.same {H H' : Hp} (S : Same H H') {v : V} {ws : List W} (h : Tx H v ws) : Tx H' v ws := let ⟨a, e, z, r⟩ := h; ⟨a, e, S _ _ z, r⟩
def Txs (H : Hp) : List V → List (List W) → Prop := Paired (Tx H)
theorem Txs.same {H H' : Hp} (S : Same H H') : ∀ {vs : List V} {ts : List (List W)}, Txs H vs ts → Txs H' vs ts
  | _, _, .nil => .nil
  | _, _, .cons h t => .cons (h.same S) (Txs.same S t)
theorem Txs.len {H : Hp} {vs : List V} {ts : List (List W)} (h : Txs H vs ts) : vs.length = ts.length := Paired.length h
theorem Txs.get {H : Hp} : ∀ {vs : List V} {ts : List (List W)} {i : Nat} {v : V}, Txs H vs ts → vs[i]? = some v → ∃ t, ts[i]? = some t ∧ Tx H v t
  | _, _, _, _, .nil, e => by simp at e
  | _, _, 0, _, .cons r _, e => by simp at e; subst e; exact ⟨_, rfl, r⟩
  | _, _, i + 1, v, .cons _ t, e => by
    obtain ⟨p, h1, h2⟩ := Txs.get (i := i) (v := v) t (by simpa using e)
    exact ⟨p, by simpa using h1, h2⟩
theorem Txs.snoc {H : Hp} {vs : List V} {ts : List (List W)} {v : V} {t : List W} (h : Txs H vs ts) (r : Tx H v t) : Txs H (vs ++ [v]) (ts ++ [t]) := Paired.snoc h r
theorem Tx.jt {H : Hp} {v : V} {ws : List W} (h : Tx H v ws) : JT H v true := by
  obtain ⟨a, e, z, hw, l⟩ := h
  refine .inl ⟨a, _, _, e, z, jws_good hw, by rw [tx_len]; omega, ?_⟩
  rw [tx_len, decide_eq_true l]
  simp
theorem Txs.jts {H : Hp} : ∀ {vs : List V} {ts : List (List W)}, Txs H vs ts → JTs H vs (List.replicate vs.length true)
  | _, _, .nil => .nil
  | _, _, .cons h t => .cons h.jt (Txs.jts t)
def StAt (H : Hp) (v : V) (p : Nat × Nat) : Prop := ∃ a, v = .ref a ∧ H a = some (.tup [.int (p.1 : Int), .int (p.2 : Int)])
def StsAt (H : Hp) : List V → Stc → Prop := Paired (StAt H)
theorem StAt.same {H H' : Hp} (S : Same H H') {v : V} {p : Nat × Nat} (h : StAt H v p) : StAt H' v p := let ⟨a, e, z⟩ := h; ⟨a, e, S _ _ z⟩
theorem StsAt.same {H H' : Hp} (S : Same H H') : ∀ {vs : List V} {ps : Stc}, StsAt H vs ps → StsAt H' vs ps
  | _, _, .nil => .nil
  | _, _, .cons h t => .cons (h.same S) (StsAt.same S t)
theorem StsAt.len {H : Hp} {vs : List V} {ps : Stc} (h : StsAt H vs ps) : vs.length = ps.length := Paired.length h
theorem StsAt.get {H : Hp} : ∀ {vs : List V} {ps : Stc} {i : Nat} {p : Nat × Nat}, StsAt H vs ps → ps[i]? = some p → ∃ v, vs[i]? = some v ∧ StAt H v p
  | _, _, _, _, .nil, e => by simp at e
  | _, _, 0, _, .cons r _, e => by simp at e; subst e; exact ⟨_, rfl, r⟩
  | _, _, i + 1, p, .cons _ t, e => by
    obtain ⟨v, h1, h2⟩ := StsAt.get (i := i) (p := p) t (by simpa using e)
    exact ⟨v, by simpa using h1, h2⟩
theorem StsAt.get' {H : Hp} : ∀ {vs : List V} {ps : Stc} {i : Nat} {v : V}, StsAt H vs ps → vs[i]? = some v → ∃ p, ps[i]? = some p ∧ StAt H v p
  | _, _, _, _, .nil, e => by simp at e
  | _, _, 0, _, .cons r _, e => by simp at e; subst e; exact ⟨_, rfl, r⟩
  | _, _, i + 1, v, .cons _ t, e => by
    obtain ⟨p, h1, h2⟩ := StsAt.get' (i := i) (v := v) t (by simpa using e)
    exact ⟨p, by simpa using h1, h2⟩
theorem StsAt.snoc {H : Hp} {vs : List V} {ps : Stc} {v : V} {p : Nat × Nat} (h : StsAt H vs ps) (r : StAt H v p) : StsAt H (vs ++ [v]) (ps ++ [p]) := Paired.snoc h r
theorem StsAt.upd {H : Hp} {l : Addr} {xs : List V} {o' : HO} (hl : H l = some (.lst xs)) : ∀ {vs : List V} {ps : Stc}, StsAt H vs ps → StsAt (upd H l o') vs ps
  | _, _, .nil => .nil
  | _, _, .cons ⟨a, e, z⟩ t => .cons ⟨a, e, by rw [upd_ne (ne_of z hl (by intro y; cases y))]; exact z⟩ (StsAt.upd hl t)
theorem PrsAt.sts {H : Hp} : ∀ {vs : List V} {ps : List (Int × Nat)}, PrsAt H vs ps → (∀ p ∈ ps, 0 ≤ p.1) → StsAt H vs (ps.map fun p => (p.1.toNat, p.2))
  | _, _, .nil, _ => .nil
  | _, _, .cons (b := p) ⟨a, e, z⟩ t, h => by
    refine .cons ⟨a, e, ?_⟩ (PrsAt.sts t fun p hp => h p (List.mem_cons_of_mem _ hp))
    have := h p List.mem_cons_self
    rw [z]
    show some (HO.tup [V.int p.1, V.int (p.2 : Int)]) = some (HO.tup [V.int ((p.1.toNat : Nat) : Int), V.int (p.2 : Int)])
    rw [Int.toNat_of_nonneg this]
def BsAt (H0 H : Hp) (v : V) (A : Stc) : Prop := ∃ l us, v = .ref l ∧ H0 l = none ∧ H l = some (.lst us) ∧ StsAt H us A
def BssAt (H0 H : Hp) : List V → List Stc → Prop := Paired (BsAt H0 H)
theorem BsAt.same {H0 H H' : Hp} (S : Same H H') {v : V} {A : Stc} (h : BsAt H0 H v A) : BsAt H0 H' v A := let ⟨l, us, e, n, z, s⟩ := h; ⟨l, us, e, n, S _ _ z, s.same S⟩
theorem BssAt.same {H0 H H' : Hp} (S : Same H H') : ∀ {vs : List V} {As : List Stc}, BssAt H0 H vs As → BssAt H0 H' vs As
  | _, _, .nil => .nil
  | _, _, .cons h t => .cons (h.same S) (BssAt.same S t)
theorem BssAt.len {H0 H : Hp} {vs : List V} {As : List Stc} (h : BssAt H0 H vs As) : vs.length = As.length := Paired.length h
theorem BssAt.get {H0 H : Hp} : ∀ {vs : List V} {As : List Stc} {i : Nat} {A : Stc}, BssAt H0 H vs As → As[i]? = some A → ∃ v, vs[i]? = some v ∧ BsAt H0 H v A
  | _, _, _, _, .nil, e => by simp at e
  | _, _, 0, _, .cons r _, e => by simp at e; subst e; exact ⟨_, rfl, r⟩
  | _, _, i + 1, p, .cons _ t, e => by
    obtain ⟨v, h1, h2⟩ := BssAt.get (i := i) (A := p) t (by simpa using e)
    exact ⟨v, by simpa using h1, h2⟩
theorem BssAt.get' {H0 H : Hp} : ∀ {vs : List V} {As : List Stc} {i : Nat} {v : V}, BssAt H0 H vs As → vs[i]? = some v → ∃ A, As[i]? = some A ∧ BsAt H0 H v A
  | _, _, _, _, .nil, e => by simp at e
  | _, _, 0, _, .cons r _, e => by simp at e; subst e; exact ⟨_, rfl, r⟩
  | _, _, i + 1, v, .cons _ t, e => by
    obtain ⟨p, h1, h2⟩ := BssAt.get' (i := i) (v := v) t (by simpa using e)
    exact ⟨p, by simpa using h1, h2⟩
theorem BssAt.snoc {H0 H : Hp} {vs : List V} {As : List Stc} {v : V} {A : Stc} (h : BssAt H0 H vs As) (r : BsAt H0 H v A) : BssAt H0 H (vs ++ [v]) (As ++ [A]) := Paired.snoc h r
def spText : Sp := fun vs H Q _ => ∃ (x : V) (b : Bool), vs = [x] ∧ JT H x b ∧ ∀ H', Same H H' → Q (.bl b) H'
def spRTx (C4 C6 : Addr) : Sp := fun vs H Q E => ∃ (x y : V) (t : T), vs = [x, y] ∧ At H x t ∧ sz t ≤ 1000 ∧
  ((∃ (n : List Int) (a : Addr) (xs : List V) (bs : List Bool), IsTree t ∧ Good t n ∧ y = .ref a ∧ H a = some (.lst xs) ∧ JTs H xs bs ∧ xs.length ≤ 1000 ∧ ((xs.length = n.length ∧ bs.all id = true ∧ ∀ H', Same H H' → Q .non H') ∨ ((xs.length ≠ n.length ∨ bs.all id = false) ∧ ∀ H', Same H H' → E (.ref C6) none H'))) ∨
   (IsTree t ∧ NoL H y ∧ ∀ H', Same H H' → E (.ref C6) none H') ∨ (¬ IsTree t ∧ ∀ H', Same H H' → E (.ref C4) none H'))
def spSbs : Sp := fun vs H Q _ => ∃ (a b : Addr) (us ws : List V) (A B : Stc), vs = [.ref a, .ref b] ∧ H a = some (.lst us) ∧ H b = some (.lst ws) ∧ StsAt H us A ∧ StsAt H ws B ∧ A.length + B.length ≤ 1000000 ∧
  ∀ (l : Addr) (rs : List V) (H' : Hp), Same H H' → H l = none → H' l = some (.lst rs) → StsAt H' rs (sbs A B) → Q (.ref l) H'
def spAll : Sp := fun vs H Q _ => ∃ (a : Addr) (us : List V) (A : Stc) (As : List Stc) (H0 : Hp), vs = [.ref a] ∧ H a = some (.lst us) ∧ BssAt H0 H us (A :: As) ∧ Same H0 H ∧ A.length + (As.map List.length).sum ≤ 1000000 ∧ As.length ≤ 1000 ∧
  ∀ (l : Addr) (rs : List V) (H' : Hp), Same H H' → H0 l = none → H' l = some (.lst rs) → StsAt H' rs (As.foldl sbs A) → Q (.ref l) H'
def spExch : Sp := fun vs H Q _ => ∃ (a : Addr) (us : List V) (A : Stc), vs = [.ref a] ∧ H a = some (.lst us) ∧ StsAt H us A ∧ A.length ≤ 1000000 ∧
  ∀ (l : Addr) (rs : List V) (H' : Hp), Same H H' → H l = none → H' l = some (.lst rs) → StsAt H' rs (exch A) → Q (.ref l) H'
def spBst : Sp := fun vs H Q _ => ∃ (a : Addr) (us : List V) (wss : List (List W)), vs = [.ref a] ∧ H a = some (.lst us) ∧ Txs H us wss ∧ wss.length ≤ 1000 ∧
  ∀ (l : Addr) (rs : List V) (H' : Hp), Same H H' → H l = none → H' l = some (.lst rs) → BssAt H H' rs (wss.map stN) → Q (.ref l) H'
structure Ns (K : PySem.W.Frag) (mg : Str → Option Value) : Prop where
  gWIDE : GI mg "WIDE" 0
  gHIGH : GI mg "HIGH" 1
  gMOST_WORDS : GI mg "MOST_WORDS" 40
  gACROSS : GT mg "ACROSS" "|"
  tl : mg "len" = none
  ti : mg "isinstance" = none
  tlist : mg "list" = none
  tall : mg "all" = none
  tmax : mg "max" = none
  trev : mg "reversed" = none
  kNl : PySem.W.kitOne K (.type "NoneType") (.type "list") = some false
  kSl : PySem.W.kitOne K (.type "str") (.type "list") = some false
  kIl : PySem.W.kitOne K (.type "int") (.type "list") = some false
  kTl : PySem.W.kitOne K (.type "tuple") (.type "list") = some false
  kDl : PySem.W.kitOne K (.type "dict") (.type "list") = some false
  kBl : PySem.W.kitOne K (.type "bool") (.type "list") = some false
theorem NoL.tyS {K : PySem.W.Frag} {mg : Str → Option Value} (Z : Ns K mg) {H : Hp} {x : V} (h : NoL H x) : ∃ t, TyX K H x t ∧ PySem.W.kitOne K t (.type "list") = some false := by
  cases h with
  | non => exact ⟨_, .of .non, Z.kNl⟩
  | bl b => exact ⟨_, .of (.bl b), Z.kBl⟩
  | int i => exact ⟨_, .of (.int i), Z.kIl⟩
  | str x => exact ⟨_, .of (.str x), Z.kSl⟩
  | tup e => exact ⟨_, .of (.tup e), Z.kTl⟩
  | dK e => exact ⟨_, .of (.dK e), Z.kDl⟩
section
variable {P : Program} {w : World} {K : PySem.W.Frag} {mg : Str → Option Value} {base : Heap} {kA : Addr}
theorem scText : FnScope ["thing"] ["thing"] (defScope sText) := ⟨rfl, rfl, rfl, by decide +kernel, rfl, by decide +kernel, by decide +kernel⟩
theorem ok_text {f fA : Addr} {fd dA : FuncData} (F : Fun K "is_text" "is_text" sText f fd) (Z : Ns K mg) (Ar : Callee P w K mg base CX0 3 "are_words" fA dA ["things"] spAre) : FnOk P w K mg base CX0 4 f fd ["thing"] spText := by
  obtain ⟨gWIDE, gHIGH, gMOST_WORDS, gACROSS, tl, ti, tlist, tall, tmax, trev, _, _, _, _, _, _⟩ := Z
  refine F.ok scText (fun vs H Q E h => ?_) (fun cdv A outer s H vs Q E hr h => ?_)
  · obtain ⟨x, b, rfl, _⟩ := h
    rfl
  · obtain ⟨x, b, rfl, hJ, q⟩ := h
    refine ⟨_, (pss_one (ps_ret (pe_and (pe_call Ar.ok hr rfl Ar.bound Ar.kp Ar.bd .nil pass0 (pa_cons (pv 0) pa_nil)) (pe_one (pe_cmpR op_le (pe_callB call_len_seq (by rfl) tl PySem.boot_len (pa_cons (pv 0) pa_nil)) (pe_gi rfl gMOST_WORDS) (nomark _)))))), ?_⟩
    rcases hJ with ⟨a, xs, bs, rfl, ha, hw, hl, rfl⟩ | ⟨rfl, hn⟩
    · refine ⟨_, rfl, _, rfl, .inl ⟨a, xs, bs, rfl, ha, hw, hl, fun H1 S1 => ⟨_, rfl, ?_⟩⟩⟩
      have qq := q H1 S1
      cases e : bs.all id with
      | false =>
        rw [e] at qq
        exact iteF qq
      | true =>
        rw [e] at qq
        refine iteT ⟨_, rfl, a, xs, rfl, .inl (SqL.of (S1 _ _ ha)), _, _, rfl, rfl, ?_⟩
        have e2 : decide ((xs.length : Int) ≤ 40) = decide (xs.length ≤ 40) := by rw [decide_eq_decide]; omega
        show Q (.bl (decide ((xs.length : Int) ≤ 40))) H1
        rw [e2]
        exact qq
    · exact ⟨_, rfl, _, rfl, .inr ⟨hn, _, rfl, iteF (q H (Same.refl _))⟩⟩
theorem scRTx : FnScope ["tree", "texts", "many"] ["tree", "texts"] (defScope sRTx) := ⟨rfl, rfl, rfl, by decide +kernel, rfl, by decide +kernel, by decide +kernel⟩
theorem ok_rtx {f fB fI C4 C6 : Addr} {fd dB dI : FuncData} (F : Fun K "refuse_no_texts" "refuse_no_texts" sRTx f fd) (Z : Ns K mg) (ex : Exc K mg "NoTexts" C6) (Bo : Callee P w K mg base (CXE P w) 7 "boxes_of" fB dB ["tree"] (spBoxes C4)) (It : Callee P w K mg base CX0 4 "is_text" fI dI ["thing"] spText) :
    FnOk P w K mg base (CXE P w) 8 f fd ["tree", "texts"] (spRTx C4 C6) := by
  have Z0 := Z
  obtain ⟨gWIDE, gHIGH, gMOST_WORDS, gACROSS, tl, ti, tlist, tall, tmax, trev, _, _, _, _, _, _⟩ := Z
  refine F.okE scRTx (fun vs H Q E h => ?_) (fun cdv A outer s H vs Q E hr hh h => ?_)
  · obtain ⟨x, y, t, rfl, _⟩ := h
    rfl
  · obtain ⟨x, y, t, rfl, hA, hz, h⟩ := h
    refine ⟨_, (pss_cons (ps_set (i := 2) scRTx.nd rfl (Or.inl rfl) (pe_call Bo.ok hr rfl Bo.bound Bo.kp Bo.bd .nil passEE (pa_cons (pv 0) pa_nil)))
      (pss_cons (ps_if (PW.pt (pw_or (pt_not (pt_val (pe_callB call_isi (by rfl) ti PyProof.Rows.boot_isinstance (pa_cons (pv 1) (pa_cons (pe_tyn rfl tlist PyProof.Rows.boot_list) pa_nil))))) (pw_or1 (pt_cmpR op_ne (pe_callB call_len_seq (by rfl) tl PySem.boot_len (pa_cons (pv 1) pa_nil)) (pv 2) (nomark _)))))
      (pss_one (ps_raise ex hh rfl (pa_cons pe_str pa_nil)))
      pss_nil)
      (pss_one (ps_if (pt_not (pt_val (pe_callB (call_allL rfl) (by rfl) tall PyProof.Rows.boot_all (pa_cons (pe_comp (Nc := ["text"]) (ix := [none]) rfl rfl (by refine' pi_list ?zz; case zz => exact (pv 1)) (fun _ _ _ _ _ => (pg_name (i := 0) (by show (["text"] : List Str).Nodup; decide +kernel) rfl (Or.inl rfl))) (fun _ _ _ _ _ => pts_nil) (fun _ _ _ _ _ => (pe_call It.ok (hr.mono (show 4 ≤ 7 by decide)) rfl It.bound It.kp It.bd .nil pass0 (pa_cons (pv 0) pa_nil)))) pa_nil))))
      (pss_one (ps_raise ex hh rfl (pa_cons pe_str pa_nil)))
      pss_nil)))), ?_⟩
    rcases h with ⟨n, a, xs, bs, iT, g, rfl, ha, hJ, hl, h⟩ | ⟨iT, hn, qe⟩ | ⟨nT, qe⟩
    · refine ⟨_, rfl, x, t, rfl, hA, hz, .inl ⟨n, iT, g, fun H1 S1 => ?_⟩⟩
      refine ⟨_, rfl, _, _, _, _, rfl, rfl, .of (.lst (S1 _ _ ha)), rfl, _, rfl, iteF ?_⟩
      refine ⟨_, rfl, a, xs, rfl, .inl (SqL.of (S1 _ _ ha)), _, rfl, rfl, _, rfl, ?_⟩
      have el : (!decide (V.int (xs.length : Int) = V.int (n.length : Int))) = decide (xs.length ≠ n.length) := by
        by_cases e : xs.length = n.length
        · rw [e]; simp
        · rw [decide_eq_true e, decide_eq_false fun z => e (by injection z with z; omega)]
          rfl
      rw [el]
      by_cases en : xs.length = n.length
      · rw [decide_eq_false (fun z => z en)]
        refine iteF ?_
        refine run_next ?_
        dsimp only
        have hJ1 := hJ.same S1
        have lb := hJ.len
        refine ⟨_, rfl, a, rfl, ⟨_, SqL.of (S1 _ _ ha)⟩, cmp_list (K := K) (a := a) (xs := xs) (fun i ys σ H' => ys = (bs.take i).map V.bl ∧ Same H H' ∧ ∃ o, σ = [o]) ⟨rfl, S1, none, rfl⟩
          (fun i ys σ H' hi ⟨e, S, _⟩ => ⟨by rw [e, List.length_map, List.length_take]; exact Nat.le_trans (show _ ≤ 1000 by omega) (by decide), SqL.of (S _ _ ha)⟩) ?_ ?_⟩
        case refine_2 =>
          rintro i v ys σ H' hx ⟨rfl, S, o, rfl⟩
          obtain ⟨b, hb, hj⟩ := hJ.get hx
          obtain ⟨hil, ev⟩ := List.getElem?_eq_some_iff.mp hb
          dsimp only [gName, tYes]
          refine iteT ?_
          refine ⟨_, rfl, v, b, rfl, hj.same S, fun H2 S2 => ⟨?_, S.trans S2, _, rfl⟩⟩
          rw [← List.take_append_getElem hil, ev, List.map_append]
          rfl
        rintro ys σ H2 ⟨rfl, S2, _⟩ pl npl
        rw [lb, List.take_length]
        have S3 := S2.trans (same_new (o := .lst (bs.map V.bl)) npl)
        refine ⟨pl, bs, rfl, SqL.of upd_same, _, rfl, ?_⟩
        rcases h with ⟨_, eb, q⟩ | ⟨eb, qe⟩
        · rw [eb]
          exact iteF (q _ S3)
        · rw [eb.resolve_left (fun z => z en)]
          exact iteT ⟨by show 1 ≤ sizeLine; decide, qe _ S3⟩
      · rw [decide_eq_true en]
        rcases h with ⟨z, _⟩ | ⟨_, qe⟩
        · exact absurd z en
        · exact iteT ⟨by show 1 ≤ sizeLine; decide, qe H1 S1⟩
    · obtain ⟨m, gm, _⟩ := iT
      refine ⟨_, rfl, x, t, rfl, hA, hz, .inl ⟨m, ⟨m, gm, ‹_›⟩, gm, fun H1 S1 => ?_⟩⟩
      obtain ⟨ty, h1, h2⟩ := (hn.same S1).tyS Z0
      exact ⟨_, rfl, _, _, _, _, rfl, rfl, h1, h2, _, rfl, iteT (iteT ⟨by show 1 ≤ sizeLine; decide, qe H1 S1⟩)⟩
    · exact ⟨_, rfl, x, t, rfl, hA, hz, .inr ⟨nT, qe⟩⟩
end
end JH
set_option Elab.async false
set_option linter.all false
set_option maxRecDepth 100000
set_option maxHeartbeats 1000000
namespace JH
open PySem L2 Lin Tre PySem.W
open Sta (R Ok sbs exch reg OkS OkSs stN)
theorem pos_small {ws : List W} (h : ∀ u ∈ ws, okW u) : pos ws ws.length ≤ 13 * (ws.length : Int) := by
  rw [← sum_pos]
  have : ∀ l : List W, (∀ u ∈ l, okW u) → (l.map fun u => (u.length : Int)).sum ≤ 12 * (l.length : Int) := by
    intro l
    induction l with
    | nil => intro _; decide
    | cons a r ih =>
      intro h
      have := ih fun u hu => h u (List.mem_cons_of_mem _ hu)
      have := (h a List.mem_cons_self).2.1
      rw [List.map_cons, List.sum_cons, List.length_cons]
      omega
  have := this ws h
  omega
theorem stN_len {ws : List W} (h : ∀ u ∈ ws, okW u) (h40 : ws.length ≤ 40) : (stN ws).length ≤ 600 := by
  unfold stN stairs
  rw [List.length_map]
  split
  · show 1 ≤ 600
    decide
  · have := falls_len (c := cnt ws) (lo := (wid ws : Int)) (total ws - wid ws).toNat
    have := pos_small h
    unfold total at *
    omega
theorem at_st {us : List V} {i : Nat} {v : V} (h : us[i]? = some v) : atI us (i : Int) = some v := atI_nat h
section
variable {P : Program} {w : World} {K : PySem.W.Frag} {mg : Str → Option Value} {base : Heap} {kA : Addr}
theorem scSbs : FnScope ["one", "other", "stairs", "first", "second", "wide", "high"] ["one", "other"] (defScope sSbs) := ⟨rfl, rfl, rfl, by decide +kernel, rfl, by decide +kernel, by decide +kernel⟩
theorem ok_sbs {f : Addr} {fd : FuncData} (F : Fun K "side_by_side" "side_by_side" sSbs f fd) (Z : Ns K mg) : FnOk P w K mg base CX0 1 f fd ["one", "other"] spSbs := by
  obtain ⟨gWIDE, gHIGH, gMOST_WORDS, gACROSS, tl, ti, tlist, tall, tmax, trev, _, _, _, _, _, _⟩ := Z
  refine F.ok scSbs (fun vs H Q E h => ?_) (fun cdv A outer s H vs Q E hr h => ?_)
  · obtain ⟨a, b, us, ws, A, B, rfl, _⟩ := h
    rfl
  · obtain ⟨a, b, us, ws, A1, B1, rfl, ha, hb, hA, hB, hn, q⟩ := h
    refine ⟨_, (pss_cons (ps_set (i := 2) scSbs.nd rfl (Or.inl rfl) (pe_lst pa_nil))
      (pss_cons (ps_set (i := 3) scSbs.nd rfl (Or.inl rfl) pe_int)
      (pss_cons (ps_set (i := 4) scSbs.nd rfl (Or.inl rfl) pe_int)
      (pss_cons (ps_while PassesOwn.never (PW.pt (pw_and (pt_cmpR op_lt (pv 3) (pe_callB call_len_seq (by rfl) tl PySem.boot_len (pa_cons (pv 0) pa_nil)) (nomark _)) (pw_and1 (pt_cmpR op_lt (pv 4) (pe_callB call_len_seq (by rfl) tl PySem.boot_len (pa_cons (pv 1) pa_nil)) (nomark _)))))
      (pss_cons (ps_set (i := 5) scSbs.nd rfl (Or.inl rfl) (pe_op op_add (pe_ix ix_tup (pe_ix ix_list (pv 0) (pv 3) (fun _ _ => rfl)) (pe_gi rfl gWIDE) (fun _ _ => rfl)) (pe_ix ix_tup (pe_ix ix_list (pv 1) (pv 4) (fun _ _ => rfl)) (pe_gi rfl gWIDE) (fun _ _ => rfl))))
        (pss_cons (ps_set (i := 6) scSbs.nd rfl (Or.inl rfl) (pe_callB (call_max2 rfl) (by rfl) tmax PyProof.Rows.boot_max (pa_cons (pe_ix ix_tup (pe_ix ix_list (pv 0) (pv 3) (fun _ _ => rfl)) (pe_gi rfl gHIGH) (fun _ _ => rfl)) (pa_cons (pe_ix ix_tup (pe_ix ix_list (pv 1) (pv 4) (fun _ _ => rfl)) (pe_gi rfl gHIGH) (fun _ _ => rfl)) pa_nil))))
        (pss_cons (ps_expr (pe_bm PySem.F.plainAttrs_list PySem.F.slot_list_append PySem.F.type_list_append mt_append (pv 2) (pa_cons (pe_tup (pa_cons (pv 5) (pa_cons (pv 6) pa_nil))) pa_nil)))
        (pss_cons (ps_if (pt_cmpR op_eq (pe_ix ix_tup (pe_ix ix_list (pv 0) (pv 3) (fun _ _ => rfl)) (pe_gi rfl gHIGH) (fun _ _ => rfl)) (pv 6) (nomark _))
        (pss_one (ps_aug (i := 3) scSbs.nd rfl (Or.inl rfl) pe_int ip_add))
        pss_nil)
        (pss_one (ps_if (pt_cmpR op_eq (pe_ix ix_tup (pe_ix ix_list (pv 1) (pv 4) (fun _ _ => rfl)) (pe_gi rfl gHIGH) (fun _ _ => rfl)) (pv 6) (nomark _))
        (pss_one (ps_aug (i := 4) scSbs.nd rfl (Or.inl rfl) pe_int ip_add))
        pss_nil)))))))
      (pss_one (ps_ret (pv 2))))))), ?_⟩
    have la := hA.len
    have lb := hB.len
    refine seq_lst ⟨by show 0 ≤ sizeLine; decide, fun l nl => ?_⟩
    have S1 := same_new (o := .lst []) nl
    have hl1 : (upd H l (.lst [])) l = some (.lst []) := upd_same
    generalize upd H l (.lst []) = H1 at S1 hl1
    dsimp only
    refine run_seq (while_n (fun m σ H2 => ∃ (i j : Nat) (out : Stc) (rs : List V) (o5 o6 : Option V), m = A1.length + B1.length - (i + j) ∧ i ≤ A1.length ∧ j ≤ B1.length ∧ out.length ≤ i + j ∧ out ++ sbs (A1.drop i) (B1.drop j) = sbs A1 B1 ∧
      σ = [some (.ref a), some (.ref b), some (.ref l), some (.int (i : Int)), some (.int (j : Int)), o5, o6] ∧ Same H H2 ∧ H2 l = some (.lst rs) ∧ StsAt H2 rs out) _
      ⟨0, 0, [], [], none, none, rfl, Nat.zero_le _, Nat.zero_le _, Nat.le_refl _, rfl, rfl, S1, hl1, .nil⟩ ?_)
    rintro m σ H2 ⟨i, j, out, rs, o5, o6, rfl, hi, hj, ho, eo, rfl, S2, hl2, hR⟩
    refine ⟨(i : Int) < (us.length : Int) ∧ (j : Int) < (ws.length : Int), inferInstance, tst_and (tst_of (evl_I0 (evl_var rfl) (evl_lenL (evl_var rfl) (SqL.of (S2 _ _ ha))))) (tst_of (evl_I0 (evl_var rfl) (evl_lenL (evl_var rfl) (SqL.of (S2 _ _ hb))))), fun c => ?_, fun c => ?_⟩
    · have hi' : i < A1.length := by omega
      have hj' : j < B1.length := by omega
      obtain ⟨p, ep⟩ : ∃ p, A1[i]? = some p := ⟨_, List.getElem?_eq_getElem hi'⟩
      obtain ⟨r, er⟩ : ∃ r, B1[j]? = some r := ⟨_, List.getElem?_eq_getElem hj'⟩
      obtain ⟨v, ev, pv, rfl, hpv⟩ := hA.get ep
      obtain ⟨u, eu, pu, rfl, hpu⟩ := hB.get er
      have dA : A1.drop i = p :: A1.drop (i + 1) := by rw [List.drop_eq_getElem_cons hi', (List.getElem?_eq_some_iff.mp ep).2]
      have dB : B1.drop j = r :: B1.drop (j + 1) := by rw [List.drop_eq_getElem_cons hj', (List.getElem?_eq_some_iff.mp er).2]
      have lr := hR.len
      have I1 : ∀ {H3 : Hp} {σ : St}, Same H H3 → σ[0]? = some (some (.ref a)) → σ[3]? = some (some (.int (i : Int))) → Evl (tOp (rIxT K) (tOp (rIxL K) (tVar 0) (tVar 3)) (tC (.int 1))) σ H3 (.int (p.2 : Int)) := fun S e1 e2 => evl_ixT (evl_ixL (evl_var e1) (evl_var e2) (SqL.of (S _ _ ha)) (at_st ev)) evl_c (SqT.of (S _ _ hpv)) rfl
      have I2 : ∀ {H3 : Hp} {σ : St}, Same H H3 → σ[1]? = some (some (.ref b)) → σ[4]? = some (some (.int (j : Int))) → Evl (tOp (rIxT K) (tOp (rIxL K) (tVar 1) (tVar 4)) (tC (.int 1))) σ H3 (.int (r.2 : Int)) := fun S e1 e2 => evl_ixT (evl_ixL (evl_var e1) (evl_var e2) (SqL.of (S _ _ hb)) (at_st eu)) evl_c (SqT.of (S _ _ hpu)) rfl
      refine seq_asg (v := .int ((p.1 : Int) + (r.1 : Int))) (evl_I0 (evl_ixT (evl_ixL (evl_var rfl) (evl_var rfl) (SqL.of (S2 _ _ ha)) (at_st ev)) evl_c (SqT.of (S2 _ _ hpv)) rfl) (evl_ixT (evl_ixL (evl_var rfl) (evl_var rfl) (SqL.of (S2 _ _ hb)) (at_st eu)) evl_c (SqT.of (S2 _ _ hpu)) rfl)) ?_
      have em : (if (r.2 : Int) > (p.2 : Int) then (r.2 : Int) else (p.2 : Int)) = ((max p.2 r.2 : Nat) : Int) := by
        split <;> omega
      refine seq_asg (v := .int ((max p.2 r.2 : Nat) : Int)) (by rw [← em]; exact evl_call2 (g := fun i j => .int (if j > i then j else i)) (I1 S2 rfl rfl) (I2 S2 rfl rfl)) ?_
      refine ⟨_, rfl, .inl ⟨rfl, _, SqL.of hl2⟩, _, rfl, _, rfl, by show 2 ≤ sizeLine; decide, fun tp ntp => ?_⟩
      have S3 := S2.trans (same_new (o := .tup [.int ((p.1 : Int) + (r.1 : Int)), .int ((max p.2 r.2 : Nat) : Int)]) ntp)
      have htp : (upd H2 tp (.tup [.int ((p.1 : Int) + (r.1 : Int)), .int ((max p.2 r.2 : Nat) : Int)])) tp = some (.tup [.int ((p.1 : Int) + (r.1 : Int)), .int ((max p.2 r.2 : Nat) : Int)]) := upd_same
      have hl3 := same_new (o := .tup [.int ((p.1 : Int) + (r.1 : Int)), .int ((max p.2 r.2 : Nat) : Int)]) ntp _ _ hl2
      have hR3 := hR.same (same_new (o := .tup [.int ((p.1 : Int) + (r.1 : Int)), .int ((max p.2 r.2 : Nat) : Int)]) ntp)
      generalize upd H2 tp (.tup [.int ((p.1 : Int) + (r.1 : Int)), .int ((max p.2 r.2 : Nat) : Int)]) = H3 at S3 htp hl3 hR3
      refine ⟨l, _, _, rfl, rfl, hl3, Nat.lt_of_le_of_lt (show rs.length ≤ 1000000 by omega) (by decide), ?_⟩
      have S4 : Same H (upd H3 l (.lst (rs ++ [.ref tp]))) := same_upd S3 nl
      have hl4 : (upd H3 l (.lst (rs ++ [.ref tp]))) l = some (.lst (rs ++ [.ref tp])) := upd_same
      have ex : StAt H3 (.ref tp) (p.1 + r.1, max p.2 r.2) := ⟨tp, rfl, by rw [htp]; rfl⟩
      have hR4 := (hR3.snoc ex).upd (o' := .lst (rs ++ [.ref tp])) hl3
      generalize upd H3 l (.lst (rs ++ [.ref tp])) = H4 at S4 hl4 hR4
      have lo : (out ++ [(p.1 + r.1, max p.2 r.2)]).length = out.length + 1 := by rw [List.length_append]; rfl
      have es : out ++ [(p.1 + r.1, max p.2 r.2)] ++ (if p.2 = max p.2 r.2 then (if r.2 = max p.2 r.2 then sbs (A1.drop (i + 1)) (B1.drop (j + 1)) else sbs (A1.drop (i + 1)) (B1.drop j)) else sbs (A1.drop i) (B1.drop (j + 1))) = sbs A1 B1 := by
        rw [← eo, dA, dB, Sta.sbs_cons, List.append_assoc]
        rfl
      have T1 : ∀ {σ : St}, σ[0]? = some (some (.ref a)) → σ[3]? = some (some (.int (i : Int))) → σ[6]? = some (some (.int ((max p.2 r.2 : Nat) : Int))) → Tst (tTest (tOp rEq (tOp (rIxT K) (tOp (rIxL K) (tVar 0) (tVar 3)) (tC (.int 1))) (tVar 6))) σ H4 ((p.2 : Int) = ((max p.2 r.2 : Nat) : Int)) := fun e1 e2 e3 => tst_of (evl_eqI (I1 S4 e1 e2) (evl_var e3))
      have T2 : ∀ {σ : St}, σ[1]? = some (some (.ref b)) → σ[4]? = some (some (.int (j : Int))) → σ[6]? = some (some (.int ((max p.2 r.2 : Nat) : Int))) → Tst (tTest (tOp rEq (tOp (rIxT K) (tOp (rIxL K) (tVar 1) (tVar 4)) (tC (.int 1))) (tVar 6))) σ H4 ((r.2 : Int) = ((max p.2 r.2 : Nat) : Int)) := fun e1 e2 e3 => tst_of (evl_eqI (I2 S4 e1 e2) (evl_var e3))
      refine seq_if (T1 rfl rfl rfl) (fun c1 => ?_) (fun c1 => ?_)
      · have c1 : p.2 = max p.2 r.2 := by omega
        rw [if_pos c1] at es
        refine ⟨_, rfl, _, _, rfl, rfl, ?_⟩
        refine tst_if (T2 rfl rfl rfl) (fun c2 => ?_) (fun c2 => ?_)
        · have c2 : r.2 = max p.2 r.2 := by omega
          rw [if_pos c2] at es
          refine ⟨_, rfl, _, _, rfl, rfl, ?_⟩
          exact ⟨_, by omega, i + 1, j + 1, _, _, _, _, rfl, by omega, by omega, by omega, es, rfl, S4, hl4, hR4⟩
        · rw [if_neg (by omega)] at es
          exact ⟨_, by omega, i + 1, j, _, _, _, _, rfl, by omega, by omega, by omega, es, rfl, S4, hl4, hR4⟩
      · have c1 : ¬ p.2 = max p.2 r.2 := by omega
        rw [if_neg c1] at es
        refine run_next ?_
        dsimp only
        refine tst_if (T2 rfl rfl rfl) (fun c2 => ?_) (fun c2 => ?_)
        · refine ⟨_, rfl, _, _, rfl, rfl, ?_⟩
          exact ⟨_, by omega, i, j + 1, _, _, _, _, rfl, by omega, by omega, by omega, es, rfl, S4, hl4, hR4⟩
        · omega
    · have e0 : sbs (A1.drop i) (B1.drop j) = [] := by
        by_cases z : i < A1.length
        · have : B1.drop j = [] := List.drop_eq_nil_iff.mpr (by omega)
          rw [this, Sta.sbs_nil']
        · have : A1.drop i = [] := List.drop_eq_nil_iff.mpr (by omega)
          rw [this, Sta.sbs_nil]
      rw [e0, List.append_nil] at eo
      subst eo
      exact ⟨_, rfl, q l rs H2 S2 nl hl2 hR⟩
theorem scAll : FnScope ["parts", "stairs", "part"] ["parts"] (defScope sAll) := ⟨rfl, rfl, rfl, by decide +kernel, rfl, by decide +kernel, by decide +kernel⟩
theorem ok_all {f fS : Addr} {fd dS : FuncData} (F : Fun K "all_side_by_side" "all_side_by_side" sAll f fd) (Sb : Callee P w K mg base CX0 1 "side_by_side" fS dS ["one", "other"] spSbs) : FnOk P w K mg base CX0 2 f fd ["parts"] spAll := by
  refine F.ok scAll (fun vs H Q E h => ?_) (fun cdv A outer s H vs Q E hr h => ?_)
  · obtain ⟨a, us, A, As, H0, rfl, _⟩ := h
    rfl
  · obtain ⟨a, us, A1, As, H0, rfl, ha, hB, S0, hn, h1000, q⟩ := h
    refine ⟨_, (pss_cons (ps_set (i := 1) scAll.nd rfl (Or.inl rfl) (pe_ix ix_list (pv 0) pe_int (fun _ _ => rfl)))
      (pss_cons (ps_for PassesOwn.never rfl (pi_list (pe_slice sl_list (pv 0) (po_some pe_int) po_none)) (pg_name (i := 2) scAll.nd rfl (Or.inl rfl))
      (pss_one (ps_set (i := 1) scAll.nd rfl (Or.inl rfl) (pe_call Sb.ok hr rfl Sb.bound Sb.kp Sb.bd .nil pass0 (pa_cons (pv 1) (pa_cons (pv 2) pa_nil))))))
      (pss_one (ps_ret (pv 1))))), ?_⟩
    cases hB with
    | @cons v0 _ vs _ h0 hr =>
    obtain ⟨l0, us0, rfl, n0, hl0, hs0⟩ := h0
    refine ⟨_, rfl, a, _, 0, .ref l0, rfl, rfl, SqL.of ha, atI_nat (j := 0) rfl, ?_⟩
    have lv := Paired.length hr
    refine run_seq ⟨_, rfl, _, rfl, a, _, rfl, SqL.of ha, fun pc nc => ?_⟩
    have ec : cutV (V.ref l0 :: vs) (some 1) none = vs := cutV_drop (V.ref l0 :: vs) 1 (by simp)
    rw [ec]
    have S1 := same_new (o := .lst vs) nc
    have hpc : (upd H pc (.lst vs)) pc = some (.lst vs) := upd_same
    generalize upd H pc (.lst vs) = H1 at S1 hpc
    refine ⟨pc, rfl, ⟨_, SqL.of hpc⟩, ?_⟩
    have hr : BssAt H0 H vs As := hr
    refine for_list (K := K) (a := pc) (xs := vs) (fun i σ H2 => ∃ (l : Addr) (rs : List V) (o : Option V), σ = [some (.ref a), some (.ref l), o] ∧ Same H1 H2 ∧ H0 l = none ∧ H2 l = some (.lst rs) ∧ StsAt H2 rs ((As.take i).foldl sbs A1))
      ⟨l0, us0, none, rfl, Same.refl _, n0, S1 _ _ hl0, hs0.same S1⟩ (fun i σ H2 _ ⟨_, _, _, _, S, _⟩ => SqL.of (S _ _ hpc)) ?_ ?_
    · rintro i x σ H2 hi ⟨l, rs, o, rfl, S2, nl, hl, hR⟩
      obtain ⟨B, eB, lb, bs, rfl, nb, hb, hsb⟩ := hr.get' hi
      obtain ⟨hil, ev⟩ := List.getElem?_eq_some_iff.mp eB
      refine run_gname ?_
      have S12 := S1.trans S2
      have fl := Sta.fold_len (As.take i) A1
      have sum_le : ((As.take i).map List.length).sum + B.length ≤ (As.map List.length).sum := by
        have e : As = As.take i ++ B :: As.drop (i + 1) := by
          have := List.take_append_drop i As
          rw [List.drop_eq_getElem_cons hil, ev] at this
          exact this.symm
        conv => rhs; rw [e]
        rw [List.map_append, List.sum_append, List.map_cons, List.sum_cons]
        omega
      refine ⟨_, rfl, _, rfl, l, lb, rs, bs, _, B, rfl, hl, S12 _ _ hb, hR, hsb.same S12, by omega, fun l3 rs3 H3 S3 nl3 hl3 hR3 => ?_⟩
      refine ⟨l3, rs3, _, rfl, S2.trans S3, (S0.trans S12).free nl3, hl3, ?_⟩
      rw [← List.take_append_getElem hil, ev, List.foldl_append]
      exact hR3
    · rintro σ H2 ⟨l, rs, o, rfl, S2, nl, hl, hR⟩
      rw [lv, List.take_length] at hR
      exact ⟨_, rfl, q l rs H2 (S1.trans S2) nl hl hR⟩
theorem scExch : FnScope ["stairs"] ["stairs"] (defScope sExch) := ⟨rfl, rfl, rfl, by decide +kernel, rfl, by decide +kernel, by decide +kernel⟩
theorem ok_exch {f : Addr} {fd : FuncData} (F : Fun K "exchanged" "exchanged" sExch f fd) (Z : Ns K mg) : FnOk P w K mg base CX0 1 f fd ["stairs"] spExch := by
  obtain ⟨gWIDE, gHIGH, gMOST_WORDS, gACROSS, tl, ti, tlist, tall, tmax, trev, _, _, _, _, _, _⟩ := Z
  refine F.ok scExch (fun vs H Q E h => ?_) (fun cdv A outer s H vs Q E hr h => ?_)
  · obtain ⟨a, us, A, rfl, _⟩ := h
    rfl
  · obtain ⟨a, us, A1, rfl, ha, hA, hn, q⟩ := h
    refine ⟨_, (pss_one (ps_ret (pe_comp (Nc := ["wide", "high"]) (ix := [none, none]) rfl rfl (by exact (pi_rev rfl trev (pa_cons (pv 0) pa_nil))) (fun _ _ _ _ _ => (pg_tupK (K := K) (n := 2) rfl rfl (pgs_cons (pg_name (i := 0) (by show (["wide", "high"] : List Str).Nodup; decide +kernel) rfl (Or.inl rfl)) (pgs_cons (pg_name (i := 1) (by show (["wide", "high"] : List Str).Nodup; decide +kernel) rfl (Or.inl rfl)) pgs_nil)))) (fun _ _ _ _ _ => pts_nil) (fun _ _ _ _ _ => (pe_tup (pa_cons (pv 1) (pa_cons (pv 0) pa_nil))))))), ?_⟩
    have la := hA.len
    refine ⟨_, rfl, a, us, rfl, SqL.of ha, cmp_rev (K := K) (a := a) (xs := us) (fun i ys σ H2 => Same H H2 ∧ StsAt H2 ys ((A1.reverse.take i).map fun p => (p.2, p.1)) ∧ ∃ o o2, σ = [o, o2]) ⟨Same.refl _, .nil, none, none, rfl⟩
      (fun i ys σ H2 hi ⟨S, h, _⟩ => ⟨by rw [h.len, List.length_map, List.length_take]; exact Nat.le_trans (show _ ≤ 1000000 by omega) (by decide), SqL.of (S _ _ ha)⟩) ?_ ?_⟩
    case refine_2 =>
      rintro i x ys σ H2 hi hx ⟨S2, hY, o, o2, rfl⟩
      obtain ⟨p, ep, pa, rfl, hpa⟩ := hA.get' hx
      refine ⟨pa, _, rfl, SqT.of (S2 _ _ hpa), rfl, _, _, rfl, _, _, rfl, rfl, ?_⟩
      dsimp only [gName, tYes]
      refine iteT ⟨_, rfl, _, rfl, by show 2 ≤ sizeLine; decide, fun tp ntp => ?_⟩
      have S3 := same_new (o := .tup [.int (p.2 : Int), .int (p.1 : Int)]) ntp
      have hir : i < A1.reverse.length := by rw [List.length_reverse]; omega
      have er : A1.reverse[i] = p := by
        rw [List.getElem_reverse]
        have e2 : A1[A1.length - 1 - i]? = some p := by rw [← la]; exact ep
        rw [List.getElem?_eq_getElem (by omega)] at e2
        exact Option.some.inj e2
      refine ⟨S2.trans S3, ?_, _, _, rfl⟩
      rw [← List.take_append_getElem hir, er, List.map_append]
      exact (hY.same S3).snoc ⟨tp, rfl, upd_same⟩
    rintro ys σ H2 ⟨S2, hY, _⟩ l nl
    rw [la, ← List.length_reverse, List.take_length] at hY
    exact q l ys _ (S2.trans (same_new nl)) (S2.free nl) upd_same (hY.same (same_new nl))
theorem scBst : FnScope ["texts"] ["texts"] (defScope sBst) := ⟨rfl, rfl, rfl, by decide +kernel, rfl, by decide +kernel, by decide +kernel⟩
theorem ok_bst {f fT C : Addr} {fd dT : FuncData} (F : Fun K "box_stairs" "box_stairs" sBst f fd) (Ts : Callee P w K mg base (CXE P w) 5 "text_stairs" fT dT ["words"] (spStairs C)) : FnOk P w K mg base CX0 6 f fd ["texts"] spBst := by
  refine F.ok scBst (fun vs H Q E h => ?_) (fun cdv A outer s H vs Q E hr h => ?_)
  · obtain ⟨a, us, wss, rfl, _⟩ := h
    rfl
  · obtain ⟨a, us, wss, rfl, ha, hT, hn, q⟩ := h
    refine ⟨_, (pss_one (ps_ret (pe_comp (Nc := ["words"]) (ix := [none]) rfl rfl (by refine' pi_list ?zz; case zz => exact (pv 0)) (fun _ _ _ _ _ => (pg_name (i := 0) (by show (["words"] : List Str).Nodup; decide +kernel) rfl (Or.inl rfl))) (fun _ _ _ _ _ => pts_nil) (fun _ _ _ _ _ => (pe_call Ts.ok hr rfl Ts.bound Ts.kp Ts.bd .nil passE0 (pa_cons (pv 0) pa_nil)))))), ?_⟩
    have lt := hT.len
    refine ⟨_, rfl, a, rfl, ⟨_, SqL.of ha⟩, cmp_list (K := K) (a := a) (xs := us) (fun i ys σ H2 => Same H H2 ∧ BssAt H H2 ys ((wss.take i).map stN) ∧ ∃ o, σ = [o]) ⟨Same.refl _, .nil, none, rfl⟩
      (fun i ys σ H2 hi ⟨S, h, _⟩ => ⟨by rw [h.len, List.length_map, List.length_take]; exact Nat.le_trans (show _ ≤ 1000 by omega) (by decide), SqL.of (S _ _ ha)⟩) ?_ ?_⟩
    case refine_2 =>
      rintro i x ys σ H2 hx ⟨S2, hY, o, rfl⟩
      obtain ⟨ws, ew, pa, rfl, hpa, hw, h40⟩ := hT.get hx
      obtain ⟨hil, ev⟩ := List.getElem?_eq_some_iff.mp ew
      dsimp only [gName, tYes]
      refine iteT ⟨_, rfl, .ref pa, rfl, .inl ⟨pa, ws, rfl, S2 _ _ hpa, hw, by omega, fun l3 us3 H3 S3 nl3 hl3 hP => ?_⟩⟩
      refine ⟨S2.trans S3, ?_, _, rfl⟩
      rw [← List.take_append_getElem hil, ev, List.map_append]
      refine (hY.same S3).snoc ⟨l3, us3, rfl, S2.free nl3, hl3, ?_⟩
      refine hP.sts fun p hp => ?_
      unfold stairs at hp
      split at hp
      · rw [List.mem_singleton.mp hp]
        decide
      · rcases falls_mem hp with e | ⟨j, _, e, _⟩
        · rw [e]
          exact Int.natCast_nonneg _
        · rw [e]
          show 0 ≤ (wid ws : Int) + ((j + 1 : Nat) : Int)
          omega
    rintro ys σ H2 ⟨S2, hY, _⟩ l nl
    rw [lt, List.take_length] at hY
    exact q l ys _ (S2.trans (same_new nl)) (S2.free nl) upd_same (hY.same (same_new nl))
end
end JH
set_option Elab.async false
set_option linter.all false
set_option maxRecDepth 100000
set_option maxHeartbeats 1000000
namespace Tre
theorem GoodL.get : ∀ {ts : List T} {nss : List (List Int)} {i : Nat} {t : T}, GoodL ts nss → ts[i]? = some t → ∃ n, nss[i]? = some n ∧ Good t n
  | _, _, _, _, .nil, e => by simp at e
  | _, _, 0, _, .cons h _, e => by simp at e; subst e; exact ⟨_, rfl, h⟩
  | _, _, i + 1, t, .cons _ r, e => by
    obtain ⟨n, h1, h2⟩ := GoodL.get (i := i) (t := t) r (by simpa using e)
    exact ⟨n, by simpa using h1, h2⟩
end Tre
namespace JH
open PySem L2 Lin Tre PySem.W
open Sta (R Ok sbs exch reg OkS OkSs stN HasR HasRL)
def spSo (d : Nat) : Sp := fun vs H Q _ => ∃ (x : V) (t : T) (n : List Int) (b : Addr) (bvs : List V) (As : List Stc) (Ls : List R) (P : R) (H0 : Hp), vs = [x, .ref b] ∧ At H x t ∧ Good t n ∧ HasR Ls t P ∧ H b = some (.lst bvs) ∧ BssAt H0 H bvs As ∧ OkSs As Ls ∧ (∀ A ∈ As, A.length ≤ 600) ∧
  n.length ≤ 24 ∧ sz t + 3 ≤ 4 * d ∧ d ≤ 24 ∧ Same H0 H ∧ ∀ (l : Addr) (us : List V) (A : Stc) (H' : Hp), Same H H' → H0 l = none → H' l = some (.lst us) → StsAt H' us A → OkS A P → A.length ≤ 600 * n.length → Q (.ref l) H'
def Lvs (wss : List (List W)) : List R := wss.map Sta.leafR
def spTst (C4 C6 : Addr) : Sp := fun vs H Q E => ∃ (x y : V) (t : T), vs = [x, y] ∧ At H x t ∧ sz t ≤ 1000 ∧
  ((∃ (n : List Int) (a : Addr) (xs : List V) (wss : List (List W)), IsTree t ∧ Good t n ∧ y = .ref a ∧ H a = some (.lst xs) ∧ Txs H xs wss ∧ xs.length = n.length ∧
      ∀ (P : R) (l : Addr) (us : List V) (A : Stc) (H' : Hp), HasR (Lvs wss) t P → Same H H' → H l = none → H' l = some (.lst us) → StsAt H' us A → OkS A P → A.length ≤ 15000 → Q (.ref l) H') ∨
   (∃ (n : List Int) (a : Addr) (xs : List V) (bs : List Bool), IsTree t ∧ Good t n ∧ y = .ref a ∧ H a = some (.lst xs) ∧ JTs H xs bs ∧ xs.length ≤ 1000 ∧ (xs.length ≠ n.length ∨ bs.all id = false) ∧ ∀ H', Same H H' → E (.ref C6) none H') ∨
   (IsTree t ∧ NoL H y ∧ ∀ H', Same H H' → E (.ref C6) none H') ∨ (¬ IsTree t ∧ ∀ H', Same H H' → E (.ref C4) none H'))
theorem leaves_ok {wss : List (List W)} (h : ∀ ws ∈ wss, ∀ u ∈ ws, okW u) : OkSs (wss.map stN) (Lvs wss) := by
  unfold Lvs
  induction wss with
  | nil => exact .nil
  | cons a r ih => exact .cons (Sta.st_ok fun u hu => (h a List.mem_cons_self u hu).1) (ih fun ws hw => h ws (List.mem_cons_of_mem _ hw))
theorem leaves_up (wss : List (List W)) : ∀ L ∈ Lvs wss, Sta.Up L := fun L hL => by
  obtain ⟨ws, _, rfl⟩ := List.mem_map.mp hL
  exact Sta.leaf_up ws
theorem flat_le : ∀ {nss : List (List Int)} {n : List Int}, n ∈ nss → n.length ≤ nss.flatten.length
  | a :: r, n, h => by
    rw [List.flatten_cons, List.length_append]
    rcases List.mem_cons.mp h with e | e
    · rw [e]; omega
    · have := flat_le e
      omega
theorem sum_ge : ∀ {L : List Stc} {B : Stc}, B ∈ L → B.length ≤ (L.map List.length).sum
  | a :: r, B, h => by
    rw [List.map_cons, List.sum_cons]
    rcases List.mem_cons.mp h with e | e
    · rw [e]; omega
    · have := sum_ge e
      omega
theorem Txs.okw {H : Hp} : ∀ {vs : List V} {ts : List (List W)}, Txs H vs ts → ∀ ws ∈ ts, ∀ u ∈ ws, okW u
  | _, _, .nil, ws, h => (List.not_mem_nil h).elim
  | _, _, .cons h t, ws, hw => by
    rcases List.mem_cons.mp hw with e | e
    · rw [e]
      obtain ⟨_, _, _, z, _⟩ := h
      exact z
    · exact Txs.okw t ws e
theorem Txs.ok40 {H : Hp} : ∀ {vs : List V} {ts : List (List W)}, Txs H vs ts → ∀ ws ∈ ts, ws.length ≤ 40
  | _, _, .nil, ws, h => (List.not_mem_nil h).elim
  | _, _, .cons h t, ws, hw => by
    rcases List.mem_cons.mp hw with e | e
    · rw [e]
      obtain ⟨_, _, _, _, z⟩ := h
      exact z
    · exact Txs.ok40 t ws e
theorem bar_dash : (dash : Str) ≠ bar := by decide +kernel
section
variable {P : Program} {w : World} {K : PySem.W.Frag} {mg : Str → Option Value} {base : Heap} {kA : Addr}
theorem scSo : FnScope ["tree", "boxes", "parts"] ["tree", "boxes"] (defScope sSo) := ⟨rfl, rfl, rfl, by decide +kernel, rfl, by decide +kernel, by decide +kernel⟩
theorem ok_so0 {f : Addr} {fd : FuncData} (F : Fun K "stairs_of" "stairs_of" sSo f fd) : FnOk P w K mg base CX0 3 f fd ["tree", "boxes"] (spSo 0) := by
  refine F.ok scSo (fun vs H Q E h => ?_) (fun cdv A outer s H vs Q E hr h => ?_)
  · obtain ⟨x, t, n, b, bvs, As, Ls, P, H0, rfl, _⟩ := h
    rfl
  · obtain ⟨x, t, n, b, bvs, As, Ls, P, H0, rfl, _, _, _, _, _, _, _, _, hz, _⟩ := h
    omega
theorem ok_so1 {f fW fA fX : Addr} {fd dW dA dX : FuncData} {d : Nat} (F : Fun K "stairs_of" "stairs_of" sSo f fd) (gKIND : GI mg "KIND" 0) (gPARTS : GI mg "PARTS" 1) (Z : Ns K mg) (Wo : Callee P w K mg base CX0 1 "is_whole" fW dW ["thing"] spWhole)
    (Al : Callee P w K mg base CX0 2 "all_side_by_side" fA dA ["parts"] spAll) (Ex : Callee P w K mg base CX0 1 "exchanged" fX dX ["stairs"] spExch) (So : Callee P w K mg base CX0 (d + 3) "stairs_of" f fd ["tree", "boxes"] (spSo d)) : FnOk P w K mg base CX0 (d + 4) f fd ["tree", "boxes"] (spSo (d + 1)) := by
  obtain ⟨gWIDE, gHIGH, gMOST_WORDS, gACROSS, tl, ti, tlist, tall, tmax, trev, _, _, _, _, _, _⟩ := Z
  refine F.ok scSo (fun vs H Q E h => ?_) (fun cdv A outer s H vs Q E hr h => ?_)
  · obtain ⟨x, t, n, b, bvs, As, Ls, P, H0, rfl, _⟩ := h
    rfl
  · obtain ⟨x, t, n, b, bvs, As, Ls, P1, H0, rfl, hA, g, hR, hb, hB, hO, h600, n24, hz, hd, S0, q⟩ := h
    refine ⟨_, (pss_cons (ps_if (pt_val (pe_call Wo.ok (hr.mono (by omega)) rfl Wo.bound Wo.kp Wo.bd .nil pass0 (pa_cons (pv 0) pa_nil)))
      (pss_one (ps_ret (pe_ix ix_list (pv 1) (pv 0) (fun _ _ => rfl))))
      pss_nil)
      (pss_cons (ps_comp (i := 2) (Nc := ["part", "boxes"]) (ix := [none, some 1]) scSo.nd rfl (Or.inl rfl) rfl rfl (by exact (pi_tup (pe_ix ix_tup (pv 0) (pe_gi rfl gPARTS) (fun _ _ => rfl)))) (fun _ _ _ _ _ => (pg_name (i := 0) (by show (["part", "boxes"] : List Str).Nodup; decide +kernel) rfl (Or.inl rfl))) (fun _ _ _ _ _ => pts_nil) (fun _ _ _ _ _ => (pe_call So.ok hr rfl So.bound So.kp So.bd .nil pass0 (pa_cons (pv 0) (pa_cons (pv 1) pa_nil)))))
      (pss_cons (ps_if (pt_cmpR op_eq (pe_ix ix_tup (pv 0) (pe_gi rfl gKIND) (fun _ _ => rfl)) (pe_gt rfl gACROSS) (nomark _))
      (pss_one (ps_ret (pe_call Al.ok (hr.mono (by omega)) rfl Al.bound Al.kp Al.bd .nil pass0 (pa_cons (pv 2) pa_nil))))
      pss_nil)
      (pss_one (ps_ret (pe_call Ex.ok (hr.mono (by omega)) rfl Ex.bound Ex.kp Ex.bd .nil pass0 (pa_cons (pe_call Al.ok (hr.mono (by omega)) rfl Al.bound Al.kp Al.bd .nil pass0 (pa_cons (pe_comp (Nc := ["part"]) (ix := [none]) rfl rfl (by refine' pi_list ?zz; case zz => exact (pv 2)) (fun _ _ _ _ _ => (pg_name (i := 0) (by show (["part"] : List Str).Nodup; decide +kernel) rfl (Or.inl rfl))) (fun _ _ _ _ _ => pts_nil) (fun _ _ _ _ _ => (pe_call Ex.ok (hr.mono (by omega)) rfl Ex.bound Ex.kp Ex.bd .nil pass0 (pa_cons (pv 0) pa_nil)))) pa_nil)) pa_nil))))))), ?_⟩
    refine ⟨_, rfl, x, t, rfl, hA, _, rfl, ?_⟩
    cases g with
    | leaf i =>
      cases hA
      cases hR with
      | leaf h0 hL =>
      obtain ⟨A1, eA, oA⟩ := hO.get hL
      obtain ⟨v, ev, l, us, rfl, nl, hl, hs⟩ := hB.get eA
      have ati : atI bvs i = some (.ref l) := by
        have := atI_nat ev
        rwa [Int.toNat_of_nonneg h0] at this
      refine iteT ⟨_, rfl, _, rfl, b, _, _, _, rfl, rfl, SqL.of hb, ati, q l us A1 H (Same.refl _) nl hl hs oA ?_⟩
      have := h600 A1 (List.mem_of_getElem? eA)
      show A1.length ≤ 600 * 1
      omega
    | @node k ps nss hk h2 hn hG =>
      cases hA with
      | @tup a0 vs0 ss e hL =>
      obtain ⟨b0, ws, rfl, e2, hQ⟩ := hL.knot
      have lq := hQ.len
      have nsz := sz_node k ps
      have lps := szL_len ps
      refine iteF ?_
      refine run_next ?_
      dsimp only
      obtain ⟨P0, Ps, hRL, eP⟩ : ∃ P0 Ps, HasRL Ls ps (P0 :: Ps) ∧ ((k = bar ∧ P1 = Ps.foldl Sta.bes P0) ∨ (k = dash ∧ P1 = Ps.foldl Sta.dwn P0)) := by
        cases hR with
        | bar h => exact ⟨_, _, h, .inl ⟨rfl, rfl⟩⟩
        | dash h => exact ⟨_, _, h, .inr ⟨rfl, rfl⟩⟩
      have lP := hRL.len
      have lG := hG.len
      refine ⟨_, rfl, a0, _, _, _, rfl, rfl, SqT.of e, rfl, b0, rfl, ⟨_, SqT.of e2⟩, cmp_tup (K := K) (a := b0) (xs := ws) (fun i ys σ H' => ∃ Bs : List Stc, BssAt H0 H' ys Bs ∧ OkSs Bs ((P0 :: Ps).take i) ∧ Bs.length = i ∧ (Bs.map List.length).sum ≤ 600 * (nss.take i).flatten.length ∧ Same H H' ∧ ∃ o, σ = [o, some (.ref b)]) ⟨[], .nil, .nil, rfl, Nat.le_refl _, Same.refl _, none, rfl⟩
        (fun i ys σ H' hi ⟨Bs, h1, _, l1, _, S3, _⟩ => ⟨by rw [h1.len, l1]; exact Nat.le_trans (show i ≤ 1000000 by omega) (by decide), SqT.of (S3 _ _ e2)⟩) ?_ ?_⟩
      case refine_2 =>
        rintro i y ys σ H1 hy ⟨Bs, hBs, oBs, lB, sB, S1, o, rfl⟩
        obtain ⟨p, ep, hAp⟩ := hQ.get hy
        obtain ⟨hil, ev⟩ := List.getElem?_eq_some_iff.mp ep
        have pm : p ∈ ps := List.mem_of_getElem? ep
        obtain ⟨np, enp, gp⟩ := hG.get ep
        obtain ⟨hin, evn⟩ := List.getElem?_eq_some_iff.mp enp
        obtain ⟨Pp, ePp, hPp⟩ := hRL.get ep
        obtain ⟨hip, evp⟩ := List.getElem?_eq_some_iff.mp ePp
        have two := two_of h2 pm
        have ln := flat_le (List.mem_of_getElem? enp)
        dsimp only [gName, tYes]
        refine iteT ?_
        refine ⟨_, rfl, _, rfl, y, p, np, b, bvs, As, Ls, Pp, H0, rfl, hAp.same S1, gp, hPp, S1 _ _ hb, hB.same S1, hO, h600, by omega, by omega, by omega, S0.trans S1, fun l us A1 H2 S2 nl hl hs oA lA => ?_⟩
        refine ⟨Bs ++ [A1], (hBs.same S2).snoc ⟨l, us, rfl, nl, hl, hs⟩, ?_, by rw [List.length_append, lB]; rfl, ?_, S1.trans S2, _, rfl⟩
        · rw [← List.take_append_getElem hip, evp]
          exact oBs.snoc oA
        · rw [← List.take_append_getElem hin, evn, List.flatten_append, List.length_append, List.map_append, List.sum_append]
          simp only [List.flatten_cons, List.flatten_nil, List.append_nil, List.map_cons, List.map_nil, List.sum_cons, List.sum_nil]
          omega
      rintro ys σ H1 ⟨Bs, hBs, oBs, lB, sB, S1, _⟩ pl npl
      rw [lq, lP, List.take_length] at oBs
      rw [lq, ← lG, List.take_length] at sB
      have S2 := S1.trans (same_new (o := .lst ys) npl)
      have hpl : (upd H1 pl (.lst ys)) pl = some (.lst ys) := upd_same
      have hBs2 := hBs.same (same_new (o := .lst ys) npl)
      generalize upd H1 pl (.lst ys) = H2 at S2 hpl hBs2
      clear hBs
      cases oBs with
      | @cons B0 _ Br _ o0 oR =>
      rw [List.map_cons, List.sum_cons] at sB
      rw [List.length_cons] at lB
      try dsimp only
      refine ⟨_, rfl, a0, _, _, _, rfl, rfl, SqT.of (S2 _ _ e), rfl, rfl, _, rfl, ?_⟩
      have ek : decide (V.str k = V.str "|") = decide (k = bar) := by
        rw [decide_eq_decide]
        exact ⟨fun z => by injection z, fun z => by rw [z]; rfl⟩
      rw [ek]
      rcases eP with ⟨rfl, rfl⟩ | ⟨rfl, rfl⟩
      · rw [decide_eq_true rfl]
        refine iteT ⟨_, rfl, pl, ys, B0, Br, H0, rfl, hpl, hBs2, S0.trans S2, by omega, by omega, fun l rs H3 S3 nl hl hs => ?_⟩
        have fl := Sta.fold_len Br B0
        exact q l rs _ H3 (S2.trans S3) nl hl hs (Sta.fold_sbs oR o0) (by omega)
      · rw [decide_eq_false bar_dash]
        refine iteF ?_
        refine run_next ?_
        dsimp only
        refine ⟨_, rfl, pl, rfl, ⟨_, SqL.of hpl⟩, cmp_list (K := K) (a := pl) (xs := ys) (fun i zs σ H' => BssAt H0 H' zs (((B0 :: Br).take i).map exch) ∧ Same H2 H' ∧ ∃ o, σ = [o]) ⟨.nil, Same.refl _, none, rfl⟩
          (fun i zs σ H' hi ⟨h1, S3, _⟩ => ⟨by rw [h1.len, List.length_map, List.length_take, List.length_cons]; exact Nat.le_trans (show _ ≤ 1000000 by omega) (by decide), SqL.of (S3 _ _ hpl)⟩) ?_ ?_⟩
        case refine_2 =>
          rintro i y zs σ H3 hy ⟨hZ, S3, o, rfl⟩
          obtain ⟨B, eB, lb, us, rfl, nb, hlb, hsb⟩ := hBs2.get' hy
          obtain ⟨hil, ev⟩ := List.getElem?_eq_some_iff.mp eB
          have lB' : B.length ≤ 1000000 := by
            have m : B ∈ B0 :: Br := List.mem_of_getElem? eB
            have := sum_ge m
            rw [List.map_cons, List.sum_cons] at this
            omega
          dsimp only [gName, tYes]
          refine iteT ⟨_, rfl, lb, us, B, rfl, S3 _ _ hlb, hsb.same S3, lB', fun l rs H4 S4 nl hl hs => ⟨?_, S3.trans S4, _, rfl⟩⟩
          rw [← List.take_append_getElem hil, ev, List.map_append]
          exact (hZ.same S4).snoc ⟨l, rs, rfl, (S0.trans (S2.trans S3)).free nl, hl, hs⟩
        rintro zs σ H3 ⟨hZ, S3, _⟩ pz npz
        have ly := hBs2.len
        rw [ly, List.take_length, List.map_cons] at hZ
        have S4 := S3.trans (same_new (o := .lst zs) npz)
        have hpz : (upd H3 pz (.lst zs)) pz = some (.lst zs) := upd_same
        have hZ4 := hZ.same (same_new (o := .lst zs) npz)
        generalize upd H3 pz (.lst zs) = H4 at S4 hpz hZ4
        have el : (exch B0).length + ((Br.map exch).map List.length).sum = B0.length + (Br.map List.length).sum := by rw [Sta.exch_len, Sta.exch_lens]
        refine ⟨pz, zs, exch B0, Br.map exch, H0, rfl, hpz, hZ4, S0.trans (S2.trans S4), by omega, by rw [List.length_map]; omega, fun l rs H5 S5 nl hl hs => ?_⟩
        have fl := Sta.fold_len (Br.map exch) (exch B0)
        refine ⟨l, rs, _, rfl, hl, hs, by omega, fun l2 rs2 H6 S6 nl2 hl2 hs2 => ?_⟩
        have o1 := (Sta.fold_sbs oR.exch o0.exch).exch
        rw [Sta.fold_tr] at o1
        exact q l2 rs2 _ H6 (S2.trans (S4.trans (S5.trans S6))) ((S0.trans (S2.trans (S4.trans S5))).free nl2) hl2 hs2 o1 (by rw [Sta.exch_len]; omega)
theorem ok_so {f fW fA fX : Addr} {fd dW dA dX : FuncData} (F : Fun K "stairs_of" "stairs_of" sSo f fd) (gKIND : GI mg "KIND" 0) (gPARTS : GI mg "PARTS" 1) (Z : Ns K mg) (Wo : Callee P w K mg base CX0 1 "is_whole" fW dW ["thing"] spWhole)
    (Al : Callee P w K mg base CX0 2 "all_side_by_side" fA dA ["parts"] spAll) (Ex : Callee P w K mg base CX0 1 "exchanged" fX dX ["stairs"] spExch) (bo : mg "stairs_of" = some (.ref f)) (kp : PySem.W.keepIn K (.ref f) = true) (bd : Binds K fd ["tree", "boxes"] []) : ∀ d, FnOk P w K mg base CX0 (d + 3) f fd ["tree", "boxes"] (spSo d)
  | 0 => ok_so0 F
  | d + 1 => ok_so1 F gKIND gPARTS Z Wo Al Ex ⟨ok_so F gKIND gPARTS Z Wo Al Ex bo kp bd d, bo, kp, bd⟩
theorem scTst : FnScope ["tree", "texts"] ["tree", "texts"] (defScope sTst) := ⟨rfl, rfl, rfl, by decide +kernel, rfl, by decide +kernel, by decide +kernel⟩
theorem ok_tst {f fR fS fB C4 C6 : Addr} {fd dR dS dB : FuncData} (F : Fun K "tree_stairs" "tree_stairs" sTst f fd) (Rt : Callee P w K mg base (CXE P w) 8 "refuse_no_texts" fR dR ["tree", "texts"] (spRTx C4 C6)) (So : Callee P w K mg base CX0 27 "stairs_of" fS dS ["tree", "boxes"] (spSo 24))
    (Bs : Callee P w K mg base CX0 6 "box_stairs" fB dB ["texts"] spBst) : FnOk P w K mg base (CXE P w) 28 f fd ["tree", "texts"] (spTst C4 C6) := by
  refine F.okE scTst (fun vs H Q E h => ?_) (fun cdv A outer s H vs Q E hr hh h => ?_)
  · obtain ⟨x, y, t, rfl, _⟩ := h
    rfl
  · obtain ⟨x, y, t, rfl, hA, hz, h⟩ := h
    refine ⟨_, (pss_cons (ps_expr (pe_call Rt.ok (hr.mono (by decide)) rfl Rt.bound Rt.kp Rt.bd .nil passEE (pa_cons (pv 0) (pa_cons (pv 1) pa_nil))))
      (pss_one (ps_ret (pe_call So.ok hr rfl So.bound So.kp So.bd .nil pass0 (pa_cons (pv 0) (pa_cons (pe_call Bs.ok (hr.mono (by decide)) rfl Bs.bound Bs.kp Bs.bd .nil pass0 (pa_cons (pv 1) pa_nil)) pa_nil)))))), ?_⟩
    rcases h with ⟨n, a, xs, wss, iT, g, rfl, ha, hT, hl, q⟩ | ⟨n, a, xs, bs, iT, g, rfl, ha, hJ, hl, hb, qe⟩ | ⟨iT, hn, qe⟩ | ⟨nT, qe⟩
    · have n24 := (iT.okN g).2
      have okn := (iT.okN g).1
      refine ⟨_, rfl, _, rfl, x, .ref a, t, rfl, hA, hz, .inl ⟨n, a, xs, _, iT, g, rfl, ha, hT.jts, by omega, .inl ⟨hl, by simp, fun H1 S1 => ?_⟩⟩⟩
      have lw := hT.len
      have okw := hT.okw
      have ok40 := hT.ok40
      refine ⟨_, rfl, _, rfl, a, xs, wss, rfl, S1 _ _ ha, hT.same S1, by omega, fun lb rs H2 S2 nlb hlb hBs => ?_⟩
      have rng : ∀ i ∈ n, 0 ≤ i ∧ i < ((Lvs wss).length : Int) := fun i hi => by
        obtain ⟨y, gy, l24, py⟩ := iT
        have e := Good.uniq g gy
        subst e
        have := py.mem_iff.mp hi
        unfold up at this
        obtain ⟨j, hj, rfl⟩ := List.mem_map.mp this
        have := List.mem_range.mp hj
        unfold Lvs
        rw [List.length_map]
        omega
      obtain ⟨P1, hP⟩ := Sta.hasR_of g rng
      have hsz := g.szN
      refine ⟨x, t, n, lb, rs, wss.map stN, Lvs wss, P1, H1, rfl, hA.same (S1.trans S2), g, hP, hlb, hBs, leaves_ok okw, fun A hA => ?_, n24, by omega, by decide, S2, fun l us A1 H3 S3 nl hl hs oA lA => ?_⟩
      · obtain ⟨ws, hw, rfl⟩ := List.mem_map.mp hA
        exact stN_len (okw ws hw) (ok40 ws hw)
      · exact q P1 l us A1 H3 hP (S1.trans (S2.trans S3)) (S1.free nl) hl hs oA (by omega)
    · exact ⟨_, rfl, _, rfl, x, .ref a, t, rfl, hA, hz, .inl ⟨n, a, xs, bs, iT, g, rfl, ha, hJ, hl, .inr ⟨hb, qe⟩⟩⟩
    · exact ⟨_, rfl, _, rfl, x, y, t, rfl, hA, hz, .inr (.inl ⟨iT, hn, qe⟩)⟩
    · exact ⟨_, rfl, _, rfl, x, y, t, rfl, hA, hz, .inr (.inr ⟨nT, qe⟩)⟩
end
end JH
set_option Elab.async false
set_option linter.all false
set_option maxRecDepth 100000
set_option maxHeartbeats 1000000
namespace L2
open PySem PySem.Spec PyProof.Rows
end L2
set_option Elab.async false
set_option linter.all false
set_option maxRecDepth 100000
set_option maxHeartbeats 1000000
namespace JH
open PySem L2 Lin Tre PySem.W
open Sta (R Ok sbs exch reg OkS OkSs stN HasR HasRL)
theorem eqR_true {K : PySem.W.Frag} {H : Hp} {n : Nat} {x y : V} {b : Bool} (h : EqR K H n x y b) (e : b = true) : EqR K H n x y true := e ▸ h
theorem all_true (n : Nat) : ((List.range n).all fun _ => true) = true := List.all_eq_true.mpr fun _ _ => rfl
theorem eq_tx {K : PySem.W.Frag} {H : Hp} {n : Nat} {a b : Addr} {ws : List W} (ha : SqL K H a (tx ws)) (hb : SqL K H b (tx ws)) : EqR K H (n + 1) (.ref a) (.ref b) true := by
  have fl : ∀ j, j < (tx ws).length → flatV ((tx ws).getD j .non) = true := fun j hj => by
    rw [tx_len] at hj
    rw [List.getD_eq_getElem?_getD, tx_get (List.getElem?_eq_getElem hj)]
    rfl
  exact eqR_true (EqR.lsts (n := n) (e := fun _ => true) ha hb rfl fun j hj => eqR_true (.flat (fl j hj) (fl j hj)) (eqV_refl (fl j hj))) (all_true _)
theorem eq_empty {K : PySem.W.Frag} {H : Hp} {a b : Addr} {xs : List V} (ha : H a = some (.lst xs)) (hb : H b = some (.lst [])) : EqR K H 1 (.ref a) (.ref b) (decide (xs = [])) := by
  by_cases h : xs = []
  · subst h
    rw [decide_eq_true rfl]
    exact eq_tx (ws := []) (SqL.of ha) (SqL.of hb)
  · rw [decide_eq_false h]
    exact EqR.lens (n := 0) (SqL.of ha) (SqL.of hb) fun z => h (List.length_eq_zero_iff.mp z)
end JH
set_option Elab.async false
set_option linter.all false
set_option maxRecDepth 100000
set_option maxHeartbeats 1000000
namespace JH
open PySem L2 Lin Tre PySem.W
open Sta (R Ok sbs exch reg OkS OkSs stN HasR HasRL Low)
def oV : Option Nat → V
  | none => .non
  | some n => .int (n : Int)
theorem tst_orL {t u : TT} {p q : Prop} {σ : St} {H : Hp} [Decidable p] [Decidable q] (a : Tst t σ H p) (b : ¬ p → Tst u σ H q) : Tst (tOr t u) σ H (p ∨ q) := fun Q z => a _ (by
  by_cases h : p
  · rw [decide_eq_true h, if_pos rfl]
    have e : decide (p ∨ q) = true := decide_eq_true (.inl h)
    rw [← e]; exact z
  · rw [decide_eq_false h, if_neg Bool.false_ne_true]
    refine b h _ ?_
    have e : decide (p ∨ q) = decide q := by rw [decide_eq_decide]; exact ⟨fun z => z.resolve_left h, .inr⟩
    rw [← e]; exact z)
end JH
set_option Elab.async false
set_option linter.all false
set_option maxRecDepth 100000
set_option maxHeartbeats 1000000
namespace JH
open PySem L2 Lin Tre PySem.W
open Sta (R Ok sbs exch reg OkS OkSs stN HasR HasRL Low)
end JH
set_option Elab.async false
set_option linter.all false
set_option maxRecDepth 100000
namespace Sta
open Tre Lin
def Nem (P : R) : Prop := ∃ w h, P w h
theorem nem_bes {P Q : R} (hP : Up P) (hQ : Up Q) (a : Nem P) (b : Nem Q) : Nem (bes P Q) := by
  obtain ⟨w1, h1, p⟩ := a
  obtain ⟨w2, h2, q⟩ := b
  exact ⟨w1 + w2, max h1 h2, w1, w2, Nat.le_refl _, hP.up p (Nat.le_refl _) (Nat.le_max_left _ _), hQ.up q (Nat.le_refl _) (Nat.le_max_right _ _)⟩
theorem nem_dwn {P Q : R} (hP : Up P) (hQ : Up Q) (a : Nem P) (b : Nem Q) : Nem (dwn P Q) := by
  obtain ⟨w1, h1, p⟩ := a
  obtain ⟨w2, h2, q⟩ := b
  exact ⟨max w1 w2, h1 + h2, h1, h2, Nat.le_refl _, hP.up p (Nat.le_max_left _ _) (Nat.le_refl _), hQ.up q (Nat.le_max_right _ _) (Nat.le_refl _)⟩
theorem nem_leaf (ws : List W) : Nem (leafR ws) := ⟨max 1 (wid ws), max 1 (cnt ws ((max 1 (wid ws) : Nat) : Int)), by omega, fun u hu => Nat.le_trans (wid_le hu) (Nat.le_max_right _ _), Nat.le_refl _⟩
theorem fold_nem {f : R → R → R} (hf : ∀ P Q, Up P → Up Q → Up (f P Q)) (hn : ∀ P Q, Up P → Up Q → Nem P → Nem Q → Nem (f P Q)) : ∀ (Ps : List R) (P : R), Up P → Nem P → (∀ Q ∈ Ps, Up Q ∧ Nem Q) → Nem (Ps.foldl f P)
  | [], P, _, n, _ => n
  | Q :: Ps, P, u, n, k => fold_nem hf hn Ps (f P Q) (hf P Q u (k Q List.mem_cons_self).1) (hn P Q u (k Q List.mem_cons_self).1 n (k Q List.mem_cons_self).2) fun U hU => k U (List.mem_cons_of_mem _ hU)
mutual
theorem HasR.nem {Ls : List R} (hL : ∀ L ∈ Ls, Up L) (hN : ∀ L ∈ Ls, Nem L) : ∀ {t : T} {P : R}, HasR Ls t P → Nem P
  | _, _, .leaf _ h => hN _ (List.mem_of_getElem? h)
  | _, _, .bar h => fold_nem (fun _ _ a b => bes_up a b) (fun _ _ a b c d => nem_bes a b c d) _ _ (HasRL.up hL h _ List.mem_cons_self) (HasRL.nem hL hN h _ List.mem_cons_self) fun Q hQ => ⟨HasRL.up hL h Q (List.mem_cons_of_mem _ hQ), HasRL.nem hL hN h Q (List.mem_cons_of_mem _ hQ)⟩
  | _, _, .dash h => fold_nem (fun _ _ a b => dwn_up a b) (fun _ _ a b c d => nem_dwn a b c d) _ _ (HasRL.up hL h _ List.mem_cons_self) (HasRL.nem hL hN h _ List.mem_cons_self) fun Q hQ => ⟨HasRL.up hL h Q (List.mem_cons_of_mem _ hQ), HasRL.nem hL hN h Q (List.mem_cons_of_mem _ hQ)⟩
theorem HasRL.nem {Ls : List R} (hL : ∀ L ∈ Ls, Up L) (hN : ∀ L ∈ Ls, Nem L) : ∀ {ts : List T} {Ps : List R}, HasRL Ls ts Ps → ∀ P ∈ Ps, Nem P
  | _, _, .nil, P, hP => (List.not_mem_nil hP).elim
  | _, _, .cons h r, P, hP => by
    rcases List.mem_cons.mp hP with e | e
    · rw [e]; exact HasR.nem hL hN h
    · exact HasRL.nem hL hN r P e
end
mutual
theorem hasR_uniq {Ls : List R} : ∀ {t : T} {P Q : R}, HasR Ls t P → HasR Ls t Q → P = Q
  | _, _, _, .leaf _ h, h' => by
    cases h' with
    | leaf _ k => rw [h] at k; exact Option.some.inj k
  | _, _, _, .bar h, h' => by
    generalize e : (T.tup [.str bar, .tup _] : T) = t' at h'
    cases h' with
    | leaf _ _ => cases e
    | bar k =>
      injection e with e
      injection e with _ e
      injection e with e _
      injection e with e
      subst e
      have := hasRL_uniq h k
      injection this with a b
      subst a b
      rfl
    | dash k =>
      injection e with e
      injection e with e _
      injection e with e
      exact absurd e.symm (by decide +kernel)
  | _, _, _, .dash h, h' => by
    generalize e : (T.tup [.str dash, .tup _] : T) = t' at h'
    cases h' with
    | leaf _ _ => cases e
    | dash k =>
      injection e with e
      injection e with _ e
      injection e with e _
      injection e with e
      subst e
      have := hasRL_uniq h k
      injection this with a b
      subst a b
      rfl
    | bar k =>
      injection e with e
      injection e with e _
      injection e with e
      exact absurd e (by decide +kernel)
theorem hasRL_uniq {Ls : List R} : ∀ {ts : List T} {Ps Qs : List R}, HasRL Ls ts Ps → HasRL Ls ts Qs → Ps = Qs
  | _, _, _, .nil, h' => by cases h'; rfl
  | _, _, _, .cons h r, h' => by
    cases h' with
    | cons k s => rw [hasR_uniq h k, hasRL_uniq r s]
end
end Sta
set_option Elab.async false
set_option linter.all false
set_option maxRecDepth 100000
namespace Sta
open Tre Lin
theorem low_min {A : S} {w : Nat} {ns : List Nat} (h : ∀ n, n ∈ ns ↔ ∃ p, p ∈ A ∧ p.1 ≤ w ∧ p.2 = n) : (ns = [] → Low (reg A) w none) ∧ ∀ M, M ∈ ns → (∀ z ∈ ns, M ≤ z) → Low (reg A) w (some M) := by
  refine ⟨fun e k ⟨p, hp, a, b⟩ => ?_, fun M hM hl => ⟨?_, fun k ⟨p, hp, a, b⟩ => ?_⟩⟩
  · have := (h p.2).mpr ⟨p, hp, a, rfl⟩
    rw [e] at this
    exact List.not_mem_nil this
  · obtain ⟨p, hp, a, b⟩ := (h M).mp hM
    exact ⟨p, hp, a, Nat.le_of_eq b⟩
  · have := hl p.2 ((h p.2).mpr ⟨p, hp, a, rfl⟩)
    omega
theorem nar_min {A : S} {k : Nat} {ns : List Nat} (h : ∀ n, n ∈ ns ↔ ∃ p, p ∈ A ∧ p.2 ≤ k ∧ p.1 = n) : (ns = [] → Low (tr (reg A)) k none) ∧ ∀ M, M ∈ ns → (∀ z ∈ ns, M ≤ z) → Low (tr (reg A)) k (some M) := by
  refine ⟨fun e w ⟨p, hp, a, b⟩ => ?_, fun M hM hl => ⟨?_, fun w ⟨p, hp, a, b⟩ => ?_⟩⟩
  · have := (h p.1).mpr ⟨p, hp, b, rfl⟩
    rw [e] at this
    exact List.not_mem_nil this
  · obtain ⟨p, hp, a, b⟩ := (h M).mp hM
    exact ⟨p, hp, Nat.le_of_eq b, a⟩
  · have := hl p.1 ((h p.1).mpr ⟨p, hp, b, rfl⟩)
    omega
end Sta
set_option Elab.async false
set_option linter.all false
set_option maxRecDepth 100000
set_option maxHeartbeats 1000000
namespace L2
open PySem PySem.Spec PyProof.Rows
section
variable {prog : Program} {w : World} {A : Around} {R : Result → Shared → Prop} {I : Addr} {fp wr : List Addr} {n : Nat} {P : Nat → Value → Prop} {St : Nat → Heap → Prop}
def Kept (bt : Nat → Nat → Bool) (P : Nat → Value → Prop) (i : Nat) (acc : Array Value) : Prop := (i = 0 ∧ acc = #[]) ∨ ∃ v, 0 < i ∧ acc = #[v, v] ∧ P (argBest bt (i - 1)) v
theorem min_loopD (W : Walks prog w A.in1 I fp wr n P St) (bt : Nat → Nat → Bool) (hcmp : CmpOf prog w A.in1 .Lt P bt) (S : Addr) (hSf : S ∉ fp) (x : Str) (d : Value) :
    ∀ (k i : Nat) (s : Shared) (acc : Array Value) (c : Nat), i + k = n → St i s.heap → Kept bt P i acc → s.heap.get? S = some { cls := .type "list", dict := none, data := .seq acc c, slots := #[] } →
    (∀ v h' tk, ((0 < n ∧ P (argBest bt (n - 1)) v) ∨ (n = 0 ∧ v = d)) → (∀ b o, b ∉ wr → b ≠ S → s.heap.get? b = some o → h'.get? b = some o) → R (.ok (.ret v)) { s with heap := h', toks := tk }) →
    codeAny (model prog w) A (.builtin "min.loop" ⟨[.ref I, .none, .ref S], [(x, d)]⟩) R s
  | 0, i, s, acc, c, hk, hst, hK, hS, hR => by
    have hSw : S ∉ wr := fun h => hSf (W.sub _ h)
    have e : i = n := by omega
    subst e
    refine codeAny_builtin F.entry_min_loop ?_
    rw [Around.under_plainId F.plain_min_loop _]
    show wpAny _ A.in1 (seqItems? (.ref S) >>= _) _ _ s
    refine wpAny_bind (wpAny_seqItems hS rfl ?_)
    refine wpAny_bind (wpAny_tryCatch (W.done s _ _ hst fun h' tk hk' => ?_))
    rcases hK with ⟨i0, rfl⟩ | ⟨v, i0, rfl, hv⟩
    · show wpAny _ A.in1 (rule _ >>= fun _ => ret d) _ _ _
      refine wpAny_bind (wpAny_rule (wpAny_pure ?_))
      exact hR d h' tk (.inr ⟨i0, rfl⟩) fun b o hb _ q => hk' b o hb q
    · have hS' := hk' S _ hSw hS
      show wpAny _ A.in1 (updateSeq S (fun _ => #[]) >>= _) _ _ _
      refine wpAny_bind (wpAny_updateSeq hS' rfl ?_)
      refine wpAny_bind (wpAny_letGo (wpAny_pure ?_))
      exact hR v _ tk (.inl ⟨i0, hv⟩) fun b o hb bS q => (Heap.get?_update_other _ _ (Ne.symm bS)).trans (hk' b o hb q)
  | k + 1, i, s, acc, c, hk, hst, hK, hS, hR => by
    have hSw : S ∉ wr := fun h => hSf (W.sub _ h)
    have hname : (toString "min" ++ toString ".loop" : String) = "min.loop" := by decide
    refine codeAny_builtin F.entry_min_loop ?_
    rw [Around.under_plainId F.plain_min_loop _]
    show wpAny _ A.in1 (seqItems? (.ref S) >>= _) _ _ s
    refine wpAny_bind (wpAny_seqItems hS rfl ?_)
    refine wpAny_bind (wpAny_tryCatch (W.item i s _ _ (by omega) hst fun v h' tk hP hst' hk' => ?_))
    have hS' := hk' S _ hSw hS
    have oth : ∀ (acc' : Array Value) b o, b ≠ S → h'.get? b = some o → (h'.update S (Obj.mapSeq fun _ => acc')).get? b = some o := fun _ b o bS q => (Heap.get?_update_other _ _ (Ne.symm bS)).trans q
    have nx : ∀ (acc' : Array Value) (c' : Nat) (h'' : Heap), Kept bt P (i + 1) acc' → h''.get? S = some { cls := .type "list", dict := none, data := .seq acc' c', slots := #[] } → (∀ b o, b ≠ S → h'.get? b = some o → h''.get? b = some o) →
        codeAny (model prog w) A (.builtin "min.loop" ⟨[.ref I, .none, .ref S], [(x, d)]⟩) R { s with heap := h'', toks := tk } := fun acc' c' h'' hK' hS'' o'' =>
      min_loopD W bt hcmp S hSf x d k (i + 1) _ acc' c' (by omega) (W.frame _ _ _ hst' fun b hb o q => o'' b o (fun z => hSf (by rw [← z]; exact hb)) q) hK' hS'' fun u h3 t3 hu k3 => hR u h3 t3 hu fun b o hb bS q => k3 b o hb bS (o'' b o bS (hk' b o hb q))
    rcases hK with ⟨i0, rfl⟩ | ⟨u, i0, rfl, hu⟩
    · show wpAny _ A.in1 (updateSeq S (fun _ => #[v, v]) >>= _) _ _ _
      refine wpAny_bind (wpAny_updateSeq hS' rfl ?_)
      rw [hname]
      exact wpAny_pure ⟨plainId_quiet F.plain_min_loop _, nx #[v, v] _ _ (.inr ⟨v, Nat.succ_pos _, rfl, by subst i0; exact hP⟩) (Heap.get?_update_self _ hS' rfl) (oth _)⟩
    · obtain ⟨j, rfl⟩ : ∃ j, i = j + 1 := ⟨i - 1, by omega⟩
      have hu : P (argBest bt j) u := hu
      show wpAny _ A.in1 (tryCatch (holding [v, v] (richCompare .Lt v u >>= _)) _ >>= _) _ _ _
      refine wpAny_bind (wpAny_tryCatch (wpAny_holding (wpAny_bind (hcmp (j + 1) (argBest bt j) v u _ _ _ hP hu ?_))))
      refine wpAny_bind (wpAny_holding (wpAny_truthy_bool ?_))
      refine wpAny_bind (wpAny_letGo (wpAny_pure ?_))
      cases hb : bt (j + 1) (argBest bt j) with
      | true =>
        rw [if_pos rfl]
        refine wpAny_bind (wpAny_updateSeq hS' rfl (wpAny_bind (wpAny_letGo ?_)))
        rw [hname]
        exact wpAny_pure ⟨plainId_quiet F.plain_min_loop _, nx #[v, v] _ _ (.inr ⟨v, Nat.succ_pos _, rfl, by show P (if bt (j + 1) (argBest bt j) = true then j + 1 else argBest bt j) v; rw [if_pos hb]; exact hP⟩) (Heap.get?_update_self _ hS' rfl) (oth _)⟩
      | false =>
        rw [if_neg Bool.false_ne_true]
        refine wpAny_bind (wpAny_letGo ?_)
        rw [hname]
        exact wpAny_pure ⟨plainId_quiet F.plain_min_loop _, nx #[u, u] _ _ (.inr ⟨u, Nat.succ_pos _, rfl, by show P (if bt (j + 1) (argBest bt j) = true then j + 1 else argBest bt j) u; rw [if_neg (by rw [hb]; exact Bool.false_ne_true)]; exact hu⟩) hS' fun _ _ _ q => q⟩
end
section
variable {prog : Program} {w : World} {A : Around} {E : Value → Shared → Prop} {s : Shared}
theorem args_minD (a d : Value) : argsOk "min" ⟨[a], [("default", d)]⟩ := by unfold argsOk; kernel_rfl
theorem call_minD {x d : Value} {Q : Value → Shared → Prop}
    (h : wpAny (model prog w) A.in1 (pyIter x) (fun it s₂ => ∃ I fp wr n P St bt, it = .ref I ∧ Walks prog w A.in1 I fp wr n P St ∧ St 0 s₂.heap ∧ (∀ b ∈ fp, b < s₂.heap.objs.size) ∧ CmpOf prog w A.in1 .Lt P bt ∧
      ∀ v h' tk, ((0 < n ∧ P (argBest bt (n - 1)) v) ∨ (n = 0 ∧ v = d)) → (∀ b o, b ∉ wr → s₂.heap.get? b = some o → h'.get? b = some o) → Q v { s₂ with heap := h', toks := tk }) E s) :
    wpAny (model prog w) A (call (.builtin "min") [x] [("default", d)]) Q E s := by
  have hname : (toString "min" ++ toString ".loop" : String) = "min.loop" := by decide
  refine wpAny_call (codeAny_call_builtin F.plain_min F.entry_min ?_)
  simp only [checkBuiltinCall, F.kind_min]
  have body : wpAny (model prog w) A.in1 (Builtin.«min» ⟨[x], [("default", d)]⟩) (fun fin s' => match fin with
      | .done f => (match (Except.ok f : Result) with | .ok (.ret v) => Q v s' | .ok _ => False | .error e => E e s')
      | .again c' => c'.quiet = true ∧ codeAny (model prog w) A c' (fun r s' => match r with | .ok (.ret v) => Q v s' | .ok _ => False | .error e => E e s') s') E s := by
    show wpAny _ A.in1 (Builtin.Builtins.bindParams "min" ["key", "default"] 0 ⟨[], [("default", d)]⟩ >>= _) _ _ s
    refine wpAny_bind (wpAny_of_eq (show Builtin.Builtins.bindParams "min" ["key", "default"] 0 ⟨[], [("default", d)]⟩ = pure [none, some d] from rfl) ?_)
    refine wpAny_bind (wpAny_pure ?_)
    refine wpAny_bind (wpAny_mono h (fun it s₂ h₂ => ?_) fun _ _ e => e)
    obtain ⟨I, fp, wr, n, P, St, bt, rfl, W, hst, hfp, hcmp, hQ⟩ := h₂
    refine wpAny_bind (wpAny_newObj_type ?_)
    have hSf : s₂.heap.objs.size ∉ fp := fun hm => Nat.lt_irrefl _ (hfp _ hm)
    rw [hname]
    refine wpAny_pure ⟨plainId_quiet F.plain_min_loop _, min_loopD W bt hcmp s₂.heap.objs.size hSf "default" d n 0 _ #[] _ (Nat.zero_add _) (W.frame _ _ _ hst fun b _ o e => Heap.get?_push_of_some _ e) (.inl ⟨rfl, rfl⟩) (Heap.get?_push_size _ rfl) fun v h' tk hP hk => ?_⟩
    exact hQ v h' tk hP fun b o hbw e => hk b o hbw (Nat.ne_of_lt (Heap.lt_size e)) (Heap.get?_push_of_some _ e)
  cases hsig : Manifest.signature? "min" with
  | none => exact wpAny_pure body
  | some sig =>
    have ha := args_minD x d
    simp only [argsOk, hsig] at ha
    have h2 : Bind.checkArgs "min" sig ⟨[x], [("default", d)]⟩ = pure () := ha
    show wpAny _ A.in1 (Bind.checkArgs "min" sig ⟨[x], [("default", d)]⟩) _ _ s
    rw [h2]
    exact wpAny_pure body
end
section
variable {X : Cx}
def tMinD (K : PySem.W.Frag) (tl : TE) : TE := fun σ H Q => tl σ H fun x H1 => ∃ (a : Addr) (ns : List Int), x = .ref a ∧ SqL K H1 a (ns.map V.int) ∧ (ns = [] → Q .non H1) ∧ (∀ M, M ∈ ns → (∀ z ∈ ns, M ≤ z) → Q (.int M) H1)
theorem pe_minD {l : Expr} {tl : TE} {cc : Nat} {np kpos p pos : Pos} (hc : X.calm = true) (hg : Gl X "min") (hm : X.mg "min" = none) (hl : PE X l tl) (hs : starEach [l] X.env = [(false, eval l X.env)] := by rfl) :
    PE X (.Call (.Name "min" p) [l] [⟨some "default", .Constant .none cc np, kpos⟩] pos) (tMinD X.K tl) := by
  intro pins s σ H Q I h
  refine wpAny_Call_Name_kw (ld_blt I hg hm boot_min ?_ (by decide) (by decide))
  refine PyProof.Rows.callWith_kw (thn ((pa_cons hl pa_nil hs) pos pins s σ H (fun vs H1 => match vs with
    | [x] => ∃ (a : Addr) (ns : List Int), x = .ref a ∧ SqL X.K H1 a (ns.map V.int) ∧ (ns = [] → Q .non H1) ∧ (∀ M, M ∈ ns → (∀ z ∈ ns, M ≤ z) → Q (.int M) H1)
    | _ => False) I h) fun us s1 ⟨vs, H1, I1, r1, q1⟩ => ?_) (by rw [hs]; rfl) (by rw [hs]; rfl) rfl rfl
  match vs, q1 with
  | [x], q1 =>
  obtain ⟨u, rfl, ru⟩ := vals1 r1
  refine thn ((pk_cons (nm := some "default") pe_non pk_nil) pos pins s1 σ H1 (fun ws H2 => ws = [.non] ∧ H2 = H1) I1 ⟨rfl, rfl⟩) fun us2 s2 ⟨ws, H2, I2, r2, e1, e2⟩ => ?_
  subst e1 e2
  obtain ⟨u2, rfl, ru2⟩ := vals1 r2
  obtain ⟨a, ns, rfl, hq, q0, q⟩ := q1
  cases (show u = Value.ref a from ru)
  cases (show u2 = Value.none from ru2)
  show wpAny _ _ (call (.builtin "min") [.ref a] [(Str.ofString "default", .none)]) _ _ _
  obtain ⟨its, rv, tp, hz⟩ := I2.list hq
  have hll := rv.length
  rw [List.length_map] at hll
  refine call_minD (lst_walk I2 tp.isList hc fun s3 e W st hfp => ?_)
  subst e
  refine ⟨_, _, _, _, _, _, _, rfl, W, st, hfp, CmpOf.ints_lt (fun i => ns.getD i 0) (nums_of rv), fun v h' tk hP hk => ?_⟩
  have keep : Inv X pins σ H2 _ := I2.kept (t' := tk) fun b o e => hk b o (fun m => by
    have := Heap.lt_size e
    rw [List.mem_singleton.mp m] at this
    exact Nat.lt_irrefl _ this) (Heap.get?_push_of_some _ e)
  rw [List.size_toArray] at hP
  rcases hP with ⟨h0, hP⟩ | ⟨h0, rfl⟩
  · obtain ⟨t, rfl⟩ := nums_of rv _ _ hP
    obtain ⟨b1, b2⟩ := argBest_lt (fun i => ns.getD i 0) (its.length - 1)
    refine ⟨.int _, H2, keep, ⟨t, rfl⟩, q _ (best_mem (by omega)) fun z hz => ?_⟩
    obtain ⟨j, hj, e⟩ := mem_at hz
    rw [← e]
    exact b2 j (by omega)
  · exact ⟨.non, H2, keep, rfl, q0 (List.length_eq_zero_iff.mp (by omega))⟩
end
end L2
set_option Elab.async false
set_option linter.all false
set_option maxRecDepth 100000
set_option maxHeartbeats 1000000
namespace JH
open PySem L2 Lin Tre PySem.W
open Sta (R Ok sbs exch reg OkS OkSs stN HasR HasRL Low tr)
theorem eq_txs {K : PySem.W.Frag} {H : Hp} {n : Nat} {a b : Addr} {us vs : List V} {wss : List (List W)} (ha : H a = some (.lst us)) (hb : H b = some (.lst vs)) (hu : Txs H us wss) (hv : Txs H vs wss) : EqR K H (n + 2) (.ref a) (.ref b) true := by
  have l1 := hu.len
  have l2 := hv.len
  refine eqR_true (EqR.lsts (n := n + 1) (e := fun _ => true) (SqL.of ha) (SqL.of hb) (by omega) fun j hj => ?_) (all_true _)
  obtain ⟨ws, e1, p, ep, hp, _⟩ := hu.get (List.getElem?_eq_getElem hj)
  obtain ⟨ws', e2, q, eq, hq, _⟩ := hv.get (List.getElem?_eq_getElem (show j < vs.length by omega))
  rw [e1] at e2
  cases e2
  rw [List.getD_eq_getElem?_getD, List.getElem?_eq_getElem hj, ep, List.getD_eq_getElem?_getD, List.getElem?_eq_getElem (show j < vs.length by omega), eq]
  exact eq_tx (SqL.of hp) (SqL.of hq)
def spLow : Sp := fun vs H Q _ => ∃ (a : Addr) (us : List V) (A : Stc) (wide : Nat), vs = [.ref a, .int wide] ∧ H a = some (.lst us) ∧ StsAt H us A ∧ A.length ≤ 1000000 ∧ ∀ (o : Option Nat) (H' : Hp), Same H H' → Low (reg A) wide o → Q (oV o) H'
def spNarw : Sp := fun vs H Q _ => ∃ (a : Addr) (us : List V) (A : Stc) (high : Nat), vs = [.ref a, .int high] ∧ H a = some (.lst us) ∧ StsAt H us A ∧ A.length ≤ 1000000 ∧ ∀ (o : Option Nat) (H' : Hp), Same H H' → Low (tr (reg A)) high o → Q (oV o) H'
def Refd (C4 C6 : Addr) (H : Hp) (y : V) (t : T) (E : XK) : Prop := (∃ (n : List Int) (a : Addr) (xs : List V) (bs : List Bool), IsTree t ∧ Good t n ∧ y = .ref a ∧ H a = some (.lst xs) ∧ JTs H xs bs ∧ xs.length ≤ 1000 ∧ (xs.length ≠ n.length ∨ bs.all id = false) ∧ ∀ H', Same H H' → E (.ref C6) none H') ∨
   (IsTree t ∧ NoL H y ∧ ∀ H', Same H H' → E (.ref C6) none H') ∨ (¬ IsTree t ∧ ∀ H', Same H H' → E (.ref C4) none H')
def spLh (C4 C6 : Addr) : Sp := fun vs H Q E => ∃ (x y : V) (t : T) (wide : Nat), vs = [x, y, .int wide] ∧ At H x t ∧ sz t ≤ 1000 ∧
  ((∃ (n : List Int) (a : Addr) (xs : List V) (wss : List (List W)), IsTree t ∧ Good t n ∧ y = .ref a ∧ H a = some (.lst xs) ∧ Txs H xs wss ∧ xs.length = n.length ∧ ∀ (P : R) (o : Option Nat) (H' : Hp), HasR (Lvs wss) t P → Same H H' → Low P wide o → Q (oV o) H') ∨ Refd C4 C6 H y t E)
def spLwide (C4 C6 : Addr) : Sp := fun vs H Q E => ∃ (x y : V) (t : T) (high : Nat), vs = [x, y, .int high] ∧ At H x t ∧ sz t ≤ 1000 ∧
  ((∃ (n : List Int) (a : Addr) (xs : List V) (wss : List (List W)), IsTree t ∧ Good t n ∧ y = .ref a ∧ H a = some (.lst xs) ∧ Txs H xs wss ∧ xs.length = n.length ∧ ∀ (P : R) (o : Option Nat) (H' : Hp), HasR (Lvs wss) t P → Same H H' → Low (tr P) high o → Q (oV o) H') ∨ Refd C4 C6 H y t E)
theorem ints_nat {ns : List Nat} {M : Int} (hM : M ∈ ns.map fun n : Nat => (n : Int)) (hl : ∀ z ∈ ns.map (fun n : Nat => (n : Int)), M ≤ z) : ∃ m : Nat, M = (m : Int) ∧ m ∈ ns ∧ ∀ z ∈ ns, m ≤ z := by
  obtain ⟨m, hm, rfl⟩ := List.mem_map.mp hM
  refine ⟨m, rfl, hm, fun z hz => ?_⟩
  have := hl (z : Int) (List.mem_map.mpr ⟨z, hz, rfl⟩)
  omega
section
variable {P : Program} {w : World} {K : PySem.W.Frag} {mg : Str → Option Value} {base : Heap} {kA : Addr}
theorem scLow : FnScope ["stairs", "wide"] ["stairs", "wide"] (defScope sLow) := ⟨rfl, rfl, rfl, by decide +kernel, rfl, by decide +kernel, by decide +kernel⟩
theorem ok_low {f : Addr} {fd : FuncData} (F : Fun K "lowest" "lowest" sLow f fd) (gWIDE : GI mg "WIDE" 0) (gHIGH : GI mg "HIGH" 1) (tmin : mg "min" = none) : FnOk P w K mg base CX0 1 f fd ["stairs", "wide"] spLow := by
  refine F.ok scLow (fun vs H Q E h => ?_) (fun cdv A outer s H vs Q E hr h => ?_)
  · obtain ⟨a, us, A, wide, rfl, _⟩ := h
    rfl
  · obtain ⟨a, us, A1, wide, rfl, ha, hA, hn, q⟩ := h
    refine ⟨_, (pss_one (ps_ret (pe_minD rfl rfl tmin (pe_comp (Nc := ["stair", "wide"]) (ix := [none, some 1]) rfl rfl (by refine' pi_list ?zz; case zz => exact (pv 0)) (fun _ _ _ _ _ => (pg_name (i := 0) (by show (["stair", "wide"] : List Str).Nodup; decide +kernel) rfl (Or.inl rfl))) (fun _ _ _ _ _ => (pts_one (pt_cmpR op_le (pe_ix (ix_tupK (K := K) rfl) (pv 0) (pe_gi rfl gWIDE) (fun _ _ => rfl)) (pv 1) (nomark _)))) (fun _ _ _ _ _ => (pe_ix (ix_tupK (K := K) rfl) (pv 0) (pe_gi rfl gHIGH) (fun _ _ => rfl))))))), ?_⟩
    have la := hA.len
    refine ⟨_, rfl, a, rfl, ⟨_, SqL.of ha⟩, cmp_list (K := K) (a := a) (xs := us) (fun i ys σ H2 => H2 = H ∧ ys = ((((A1.take i).filter fun p => decide (p.1 ≤ wide)).map fun p => p.2).map fun n : Nat => (n : Int)).map V.int ∧ ∃ o, σ = [o, some (.int (wide : Int))]) ⟨rfl, rfl, none, rfl⟩
      (fun i ys σ H2 hi ⟨e, e2, _⟩ => ⟨by rw [e2, List.length_map, List.length_map, List.length_map]; exact Nat.le_trans (List.length_filter_le _ _) (by rw [List.length_take]; exact Nat.le_trans (show _ ≤ 1000000 by omega) (by decide)), by rw [e]; exact SqL.of ha⟩) ?_ ?_⟩
    case refine_2 =>
      rintro i x ys σ H2 hx ⟨rfl, rfl, o, rfl⟩
      obtain ⟨p, ep, pa, rfl, hpa⟩ := hA.get' hx
      obtain ⟨hil, ev⟩ := List.getElem?_eq_some_iff.mp ep
      dsimp only [gName]
      refine tst_of (p := (p.1 : Int) ≤ (wide : Int)) (evl_I0 (evl_ixT (evl_var rfl) evl_c (SqT.of hpa) rfl) (evl_var rfl)) _ ?_
      rw [← List.take_append_getElem hil, ev, List.filter_append]
      by_cases c : p.1 ≤ wide
      · rw [decide_eq_true (show (p.1 : Int) ≤ (wide : Int) by omega)]
        refine iteT ⟨_, rfl, pa, _, _, _, rfl, rfl, SqT.of hpa, rfl, rfl, ?_, _, rfl⟩
        rw [List.filter_cons, decide_eq_true c, if_pos rfl, List.map_append, List.map_append, List.map_append]
        rfl
      · rw [decide_eq_false (show ¬ (p.1 : Int) ≤ (wide : Int) by omega)]
        refine iteF ⟨rfl, ?_, _, rfl⟩
        rw [List.filter_cons, decide_eq_false c]
        show _ = ((((A1.take i).filter _ ++ []).map _).map _).map _
        rw [List.append_nil]
    rintro ys σ H2 ⟨rfl, rfl, _⟩ l nl
    rw [la, List.take_length]
    have S := same_new (o := .lst (((((A1.filter fun p => decide (p.1 ≤ wide)).map fun p => p.2).map fun n : Nat => (n : Int)).map V.int))) nl
    obtain ⟨m1, m2⟩ := Sta.low_min (A := A1) (w := wide) (ns := (A1.filter fun p => decide (p.1 ≤ wide)).map fun p => p.2) (fun n => by
      rw [List.mem_map]
      constructor
      · rintro ⟨p, hp, rfl⟩
        obtain ⟨h1, h2⟩ := List.mem_filter.mp hp
        exact ⟨p, h1, of_decide_eq_true h2, rfl⟩
      · rintro ⟨p, h1, h2, rfl⟩
        exact ⟨p, List.mem_filter.mpr ⟨h1, decide_eq_true h2⟩, rfl⟩)
    refine ⟨l, _, rfl, SqL.of upd_same, fun e => q none _ S (m1 (List.map_eq_nil_iff.mp e)), fun M hM hl => ?_⟩
    obtain ⟨m, rfl, hm, hl'⟩ := ints_nat hM hl
    exact q (some m) _ S (m2 m hm hl')
theorem scNarw : FnScope ["stairs", "high"] ["stairs", "high"] (defScope sNarw) := ⟨rfl, rfl, rfl, by decide +kernel, rfl, by decide +kernel, by decide +kernel⟩
theorem ok_narw {f : Addr} {fd : FuncData} (F : Fun K "narrowest" "narrowest" sNarw f fd) (gWIDE : GI mg "WIDE" 0) (gHIGH : GI mg "HIGH" 1) (tmin : mg "min" = none) : FnOk P w K mg base CX0 1 f fd ["stairs", "high"] spNarw := by
  refine F.ok scNarw (fun vs H Q E h => ?_) (fun cdv A outer s H vs Q E hr h => ?_)
  · obtain ⟨a, us, A, high, rfl, _⟩ := h
    rfl
  · obtain ⟨a, us, A1, high, rfl, ha, hA, hn, q⟩ := h
    refine ⟨_, (pss_one (ps_ret (pe_minD rfl rfl tmin (pe_comp (Nc := ["stair", "high"]) (ix := [none, some 1]) rfl rfl (by refine' pi_list ?zz; case zz => exact (pv 0)) (fun _ _ _ _ _ => (pg_name (i := 0) (by show (["stair", "high"] : List Str).Nodup; decide +kernel) rfl (Or.inl rfl))) (fun _ _ _ _ _ => (pts_one (pt_cmpR op_le (pe_ix (ix_tupK (K := K) rfl) (pv 0) (pe_gi rfl gHIGH) (fun _ _ => rfl)) (pv 1) (nomark _)))) (fun _ _ _ _ _ => (pe_ix (ix_tupK (K := K) rfl) (pv 0) (pe_gi rfl gWIDE) (fun _ _ => rfl))))))), ?_⟩
    have la := hA.len
    refine ⟨_, rfl, a, rfl, ⟨_, SqL.of ha⟩, cmp_list (K := K) (a := a) (xs := us) (fun i ys σ H2 => H2 = H ∧ ys = ((((A1.take i).filter fun p => decide (p.2 ≤ high)).map fun p => p.1).map fun n : Nat => (n : Int)).map V.int ∧ ∃ o, σ = [o, some (.int (high : Int))]) ⟨rfl, rfl, none, rfl⟩
      (fun i ys σ H2 hi ⟨e, e2, _⟩ => ⟨by rw [e2, List.length_map, List.length_map, List.length_map]; exact Nat.le_trans (List.length_filter_le _ _) (by rw [List.length_take]; exact Nat.le_trans (show _ ≤ 1000000 by omega) (by decide)), by rw [e]; exact SqL.of ha⟩) ?_ ?_⟩
    case refine_2 =>
      rintro i x ys σ H2 hx ⟨rfl, rfl, o, rfl⟩
      obtain ⟨p, ep, pa, rfl, hpa⟩ := hA.get' hx
      obtain ⟨hil, ev⟩ := List.getElem?_eq_some_iff.mp ep
      dsimp only [gName]
      refine tst_of (p := (p.2 : Int) ≤ (high : Int)) (evl_I0 (evl_ixT (evl_var rfl) evl_c (SqT.of hpa) rfl) (evl_var rfl)) _ ?_
      rw [← List.take_append_getElem hil, ev, List.filter_append]
      by_cases c : p.2 ≤ high
      · rw [decide_eq_true (show (p.2 : Int) ≤ (high : Int) by omega)]
        refine iteT ⟨_, rfl, pa, _, _, _, rfl, rfl, SqT.of hpa, rfl, rfl, ?_, _, rfl⟩
        rw [List.filter_cons, decide_eq_true c, if_pos rfl, List.map_append, List.map_append, List.map_append]
        rfl
      · rw [decide_eq_false (show ¬ (p.2 : Int) ≤ (high : Int) by omega)]
        refine iteF ⟨rfl, ?_, _, rfl⟩
        rw [List.filter_cons, decide_eq_false c]
        show _ = ((((A1.take i).filter _ ++ []).map _).map _).map _
        rw [List.append_nil]
    rintro ys σ H2 ⟨rfl, rfl, _⟩ l nl
    rw [la, List.take_length]
    have S := same_new (o := .lst (((((A1.filter fun p => decide (p.2 ≤ high)).map fun p => p.1).map fun n : Nat => (n : Int)).map V.int))) nl
    obtain ⟨m1, m2⟩ := Sta.nar_min (A := A1) (k := high) (ns := (A1.filter fun p => decide (p.2 ≤ high)).map fun p => p.1) (fun n => by
      rw [List.mem_map]
      constructor
      · rintro ⟨p, hp, rfl⟩
        obtain ⟨h1, h2⟩ := List.mem_filter.mp hp
        exact ⟨p, h1, of_decide_eq_true h2, rfl⟩
      · rintro ⟨p, h1, h2, rfl⟩
        exact ⟨p, List.mem_filter.mpr ⟨h1, decide_eq_true h2⟩, rfl⟩)
    refine ⟨l, _, rfl, SqL.of upd_same, fun e => q none _ S (m1 (List.map_eq_nil_iff.mp e)), fun M hM hl => ?_⟩
    obtain ⟨m, rfl, hm, hl'⟩ := ints_nat hM hl
    exact q (some m) _ S (m2 m hm hl')
theorem scLh : FnScope ["tree", "texts", "wide"] ["tree", "texts", "wide"] (defScope sLh) := ⟨rfl, rfl, rfl, by decide +kernel, rfl, by decide +kernel, by decide +kernel⟩
theorem ok_lh {f fT fL C4 C6 : Addr} {fd dT dL : FuncData} (F : Fun K "least_high" "least_high" sLh f fd) (Ts : Callee P w K mg base (CXE P w) 28 "tree_stairs" fT dT ["tree", "texts"] (spTst C4 C6)) (Lo : Callee P w K mg base CX0 1 "lowest" fL dL ["stairs", "wide"] spLow) :
    FnOk P w K mg base (CXE P w) 29 f fd ["tree", "texts", "wide"] (spLh C4 C6) := by
  refine F.okE scLh (fun vs H Q E h => ?_) (fun cdv A outer s H vs Q E hr hh h => ?_)
  · obtain ⟨x, y, t, wide, rfl, _⟩ := h
    rfl
  · obtain ⟨x, y, t, wide, rfl, hA, hz, h⟩ := h
    refine ⟨_, (pss_one (ps_ret (pe_call Lo.ok (hr.mono (by decide)) rfl Lo.bound Lo.kp Lo.bd .nil pass0 (pa_cons (pe_call Ts.ok hr rfl Ts.bound Ts.kp Ts.bd .nil passEE (pa_cons (pv 0) (pa_cons (pv 1) pa_nil))) (pa_cons (pv 2) pa_nil))))), ?_⟩
    rcases h with ⟨n, a, xs, wss, iT, g, rfl, ha, hT, hl, q⟩ | h
    · refine ⟨_, rfl, _, rfl, x, .ref a, t, rfl, hA, hz, .inl ⟨n, a, xs, wss, iT, g, rfl, ha, hT, hl, fun P1 l us A1 H1 hR S1 nl hl1 hs oA lA => ?_⟩⟩
      refine ⟨_, rfl, l, us, A1, wide, rfl, hl1, hs, by omega, fun o H2 S2 low => ?_⟩
      exact q P1 o H2 hR (S1.trans S2) (low.of oA.2)
    · exact ⟨_, rfl, _, rfl, x, y, t, rfl, hA, hz, .inr h⟩
end
end JH
set_option Elab.async false
set_option linter.all false
set_option maxRecDepth 100000
namespace Sta
open Tre Lin
end Sta
set_option Elab.async false
set_option linter.all false
set_option maxRecDepth 100000
set_option maxHeartbeats 1000000
namespace L2
open PySem PySem.Spec PyProof.Rows
end L2
set_option Elab.async false
set_option linter.all false
set_option maxRecDepth 100000
set_option maxHeartbeats 1000000
namespace JH
open PySem L2 Lin Tre PySem.W
open Sta (R Ok sbs exch reg OkS OkSs stN HasR HasRL Low tr)
def nV (m : Nat) : V := .int (m : Int)
theorem cut_last {ws : List V} (h : 1 ≤ ws.length) : cutV ws none (some (-1)) = ws.dropLast := by
  unfold cutV
  rw [HT.sIx_none, List.drop_zero, List.dropLast_eq_take]
  congr 1
  show (if (-1 : Int) < 0 then (-1 + (ws.length : Int)).toNat else min (-1 : Int).toNat ws.length) - 0 = ws.length - 1
  rw [if_pos (by decide)]
  omega
end JH
set_option Elab.async false
set_option linter.all false
set_option maxRecDepth 100000
set_option maxHeartbeats 1000000
namespace JH
open PySem L2 Lin Tre PySem.W
open Sta (R Ok sbs exch reg OkS OkSs stN HasR HasRL Low tr)
end JH
set_option Elab.async false
set_option linter.all false
set_option maxRecDepth 100000
set_option maxHeartbeats 1000000
namespace Sta
open Tre Lin
end Sta
namespace JH
open PySem L2 Lin Tre PySem.W
open Sta (R Ok sbs exch reg OkS OkSs stN HasR HasRL Low tr)
end JH
set_option Elab.async false
set_option linter.all false
set_option maxRecDepth 100000
set_option maxHeartbeats 1000000
namespace JH
open PySem L2 Lin Tre PySem.W
open Sta (R Ok sbs exch reg OkS OkSs stN HasR HasRL Low tr)
def spHin (C4 C6 C7 : Addr) : Sp := fun vs H Q E => ∃ (x y : V) (t : T) (wide : Nat), vs = [x, y, .int wide] ∧ At H x t ∧ sz t ≤ 1000 ∧
  ((∃ (n : List Int) (a : Addr) (xs : List V) (wss : List (List W)), IsTree t ∧ Good t n ∧ y = .ref a ∧ H a = some (.lst xs) ∧ Txs H xs wss ∧ xs.length = n.length ∧ (∀ (P : R) (k : Nat) (H' : Hp), HasR (Lvs wss) t P → Same H H' → Low P wide (some k) → Q (.int k) H') ∧ ∀ (P : R) (H' : Hp), HasR (Lvs wss) t P → Same H H' → Low P wide none → E (.ref C7) none H') ∨ Refd C4 C6 H y t E)
section
variable {P : Program} {w : World} {K : PySem.W.Frag} {mg : Str → Option Value} {base : Heap} {kA : Addr}
theorem scHin : FnScope ["tree", "texts", "wide", "least"] ["tree", "texts", "wide"] (defScope sHin) := ⟨rfl, rfl, rfl, by decide +kernel, rfl, by decide +kernel, by decide +kernel⟩
theorem ok_hin {f fL C4 C6 C7 : Addr} {fd dL : FuncData} (F : Fun K "height_in" "height_in" sHin f fd) (ex : Exc K mg "NoRoom" C7) (Lh : Callee P w K mg base (CXE P w) 29 "least_high" fL dL ["tree", "texts", "wide"] (spLh C4 C6)) : FnOk P w K mg base (CXE P w) 30 f fd ["tree", "texts", "wide"] (spHin C4 C6 C7) := by
  refine F.okE scHin (fun vs H Q E h => ?_) (fun cdv A outer s H vs Q E hr hh h => ?_)
  · obtain ⟨x, y, t, wide, rfl, _⟩ := h
    rfl
  · obtain ⟨x, y, t, wide, rfl, hA, hz, h⟩ := h
    refine ⟨_, (pss_cons (ps_set (i := 3) scHin.nd rfl (Or.inl rfl) (pe_call Lh.ok hr rfl Lh.bound Lh.kp Lh.bd .nil passEE (pa_cons (pv 0) (pa_cons (pv 1) (pa_cons (pv 2) pa_nil)))))
      (pss_cons (ps_if (pt_cmpR op_isN (pv 3) pe_non rfl)
      (pss_one (ps_raise ex hh rfl (pa_cons pe_str pa_nil)))
      pss_nil)
      (pss_one (ps_ret (pv 3))))), ?_⟩
    rcases h with ⟨n, a, xs, wss, iT, g, rfl, ha, hT, hl, q, qe⟩ | h
    · refine ⟨_, rfl, _, rfl, _, rfl, x, .ref a, t, wide, rfl, hA, hz, .inl ⟨n, a, xs, wss, iT, g, rfl, ha, hT, hl, fun P1 o H1 hR S1 low => ?_⟩⟩
      cases o with
      | none => exact ⟨_, rfl, rfl, _, rfl, iteT ⟨by show 1 ≤ sizeLine; decide, qe P1 _ hR S1 low⟩⟩
      | some k => exact ⟨_, rfl, rfl, _, rfl, iteF ⟨_, rfl, q P1 k H1 hR S1 low⟩⟩
    · exact ⟨_, rfl, _, rfl, _, rfl, x, y, t, wide, rfl, hA, hz, .inr h⟩
end
end JH
set_option Elab.async false
set_option linter.all false
set_option maxRecDepth 100000
set_option maxHeartbeats 1000000
namespace JH
open PySem L2 Lin Tre PySem.W
open Sta (R Ok sbs exch reg OkS OkSs stN HasR HasRL Low tr)
section
variable {P : Program} {w : World} {K : PySem.W.Frag} {mg : Str → Option Value} {base : Heap} {kA : Addr}
theorem scLwide : FnScope ["tree", "texts", "high"] ["tree", "texts", "high"] (defScope sLwide) := ⟨rfl, rfl, rfl, by decide +kernel, rfl, by decide +kernel, by decide +kernel⟩
theorem ok_lwide {f fT fL C4 C6 : Addr} {fd dT dL : FuncData} (F : Fun K "least_wide" "least_wide" sLwide f fd) (Ts : Callee P w K mg base (CXE P w) 28 "tree_stairs" fT dT ["tree", "texts"] (spTst C4 C6)) (Na : Callee P w K mg base CX0 1 "narrowest" fL dL ["stairs", "high"] spNarw) :
    FnOk P w K mg base (CXE P w) 29 f fd ["tree", "texts", "high"] (spLwide C4 C6) := by
  refine F.okE scLwide (fun vs H Q E h => ?_) (fun cdv A outer s H vs Q E hr hh h => ?_)
  · obtain ⟨x, y, t, wide, rfl, _⟩ := h
    rfl
  · obtain ⟨x, y, t, wide, rfl, hA, hz, h⟩ := h
    refine ⟨_, (pss_one (ps_ret (pe_call Na.ok (hr.mono (by decide)) rfl Na.bound Na.kp Na.bd .nil pass0 (pa_cons (pe_call Ts.ok hr rfl Ts.bound Ts.kp Ts.bd .nil passEE (pa_cons (pv 0) (pa_cons (pv 1) pa_nil))) (pa_cons (pv 2) pa_nil))))), ?_⟩
    rcases h with ⟨n, a, xs, wss, iT, g, rfl, ha, hT, hl, q⟩ | h
    · refine ⟨_, rfl, _, rfl, x, .ref a, t, rfl, hA, hz, .inl ⟨n, a, xs, wss, iT, g, rfl, ha, hT, hl, fun P1 l us A1 H1 hR S1 nl hl1 hs oA lA => ?_⟩⟩
      refine ⟨_, rfl, l, us, A1, wide, rfl, hl1, hs, by omega, fun o H2 S2 low => ?_⟩
      exact q P1 o H2 hR (S1.trans S2) (low.of (P := tr (reg A1)) (Q := tr P1) fun w k => oA.2 k w)
    · exact ⟨_, rfl, _, rfl, x, y, t, rfl, hA, hz, .inr h⟩
end
end JH
set_option Elab.async false
set_option linter.all false
set_option maxRecDepth 100000
namespace Shp
open PySem L2 Tre
mutual
inductive Sh : T → Nat → Prop where
  | leaf : Sh .non 1
  | node {k : Str} {ps : List T} {ms : List Nat} (hk : isK k) (h2 : 2 ≤ ps.length) (hn : ∀ p ∈ ps, ¬ HasK p k) (h : ShL ps ms) : Sh (.tup [.str k, .tup ps]) ms.sum
inductive ShL : List T → List Nat → Prop where
  | nil : ShL [] []
  | cons {t : T} {m : Nat} {ts : List T} {ms : List Nat} (h : Sh t m) (r : ShL ts ms) : ShL (t :: ts) (m :: ms)
end
theorem ShL.app : ∀ {a b : List T} {x y : List Nat}, ShL a x → ShL b y → ShL (a ++ b) (x ++ y)
  | _, _, _, _, .nil, s => s
  | _, _, _, _, .cons h r, s => .cons h (ShL.app r s)
theorem ShL.len : ∀ {a : List T} {x : List Nat}, ShL a x → x.length = a.length
  | _, _, .nil => rfl
  | _, _, .cons _ r => by rw [List.length_cons, List.length_cons, r.len]
theorem ShL.get : ∀ {a : List T} {x : List Nat} {i : Nat} {t : T}, ShL a x → a[i]? = some t → ∃ m, x[i]? = some m ∧ Sh t m
  | _, _, _, _, .nil, e => by simp at e
  | _, _, 0, _, .cons h r, e => by simp at e; subst e; exact ⟨_, rfl, h⟩
  | _, _, i + 1, t, .cons _ r, e => by
    obtain ⟨m, h1, h2⟩ := ShL.get (i := i) (t := t) r (by simpa using e)
    exact ⟨m, by simpa using h1, h2⟩
theorem ShL.rep : ∀ n : Nat, ShL (List.replicate n .non) (List.replicate n 1)
  | 0 => .nil
  | n + 1 => by
    rw [List.replicate_succ, List.replicate_succ]
    exact .cons .leaf (ShL.rep n)
mutual
theorem Sh.pos : ∀ {t : T} {m : Nat}, Sh t m → 1 ≤ m
  | _, _, .leaf => Nat.le_refl _
  | _, _, .node (ps := ps) hk h2 hn h => by
    have := ShL.sum h
    omega
theorem ShL.sum : ∀ {a : List T} {x : List Nat}, ShL a x → a.length ≤ x.sum
  | _, _, .nil => Nat.le_refl _
  | _, _, .cons h r => by
    have := h.pos
    have := ShL.sum r
    rw [List.length_cons, List.sum_cons]
    omega
end
mutual
theorem Sh.szN : ∀ {t : T} {m : Nat}, Sh t m → sz t + 3 ≤ 4 * m
  | _, _, .leaf => by simp [sz]
  | _, _, .node (k := k) (ps := ps) hk h2 hn h => by
    have := ShL.szN h
    have := sz_node k ps
    have := ShL.sum h
    omega
theorem ShL.szN : ∀ {a : List T} {x : List Nat}, ShL a x → szL a + 3 * a.length ≤ 4 * x.sum
  | _, _, .nil => by simp [szL]
  | _, _, .cons h r => by
    have := h.szN
    have := ShL.szN r
    rw [List.length_cons, List.sum_cons]
    simp only [szL]
    omega
end
structure E where
  k : Str
  ps : List T
  ms : List Nat
def oth (k : Str) : Str := if k = bar then dash else bar
structure Ent (e : E) : Prop where
  hk : isK e.k
  sh : ShL e.ps e.ms
  hn : ∀ p ∈ e.ps, ¬ HasK p e.k
theorem oth_isK (k : Str) : isK (oth k) := by
  unfold oth
  split
  · exact .inr rfl
  · exact .inl rfl
theorem oth_ne {k : Str} (h : isK k) : oth k ≠ k := by
  unfold oth
  rcases h with e | e
  · rw [e, if_pos rfl]; decide +kernel
  · rw [e, if_neg (by decide +kernel)]; decide +kernel
def Alt : Str → List E → Prop
  | _, [] => True
  | k, e :: r => e.k = k ∧ Alt (oth k) r
def lackT (e : E) : Nat := 2 - e.ps.length
def lackI (e : E) : Nat := 1 - e.ps.length
def many (p : List E) : Nat := (p.map fun e => e.ms.sum).sum
def lackB (p : List E) : Nat := (p.map lackI).sum
theorem many_app (a b : List E) : many (a ++ b) = many a + many b := by unfold many; rw [List.map_append, List.sum_append]
theorem many_one (e : E) : many [e] = e.ms.sum := by unfold many; simp
theorem lackB_app (a b : List E) : lackB (a ++ b) = lackB a + lackB b := by unfold lackB; rw [List.map_append, List.sum_append]
theorem lackB_one (e : E) : lackB [e] = lackI e := by unfold lackB; simp
theorem Alt.snoc : ∀ {k : Str} {p : List E} {e : E}, Alt k (p ++ [e]) → ∀ f : E, f.k = e.k → Alt k (p ++ [f])
  | _, [], e, h, f, z => ⟨z.trans h.1, trivial⟩
  | k, a :: r, e, h, f, z => ⟨h.1, Alt.snoc (p := r) h.2 f z⟩
theorem Alt.push : ∀ {k : Str} {p : List E} {e : E}, Alt k (p ++ [e]) → Alt k (p ++ [e] ++ [⟨oth e.k, [], []⟩])
  | k, [], e, h => ⟨h.1, by rw [h.1], trivial⟩
  | k, a :: r, e, h => ⟨h.1, Alt.push (p := r) h.2⟩
theorem Alt.pop : ∀ {k : Str} {p : List E} {e : E}, Alt k (p ++ [e]) → Alt k p
  | _, [], _, _ => trivial
  | _, a :: r, e, h => ⟨h.1, Alt.pop (p := r) h.2⟩
theorem Alt.two : ∀ {k : Str} {p : List E} {b e : E}, Alt k (p ++ [b] ++ [e]) → e.k = oth b.k
  | k, [], b, e, h => by rw [h.1]; exact h.2.1
  | k, a :: r, b, e, h => Alt.two (p := r) h.2
def full (e : E) : T := .tup [.str e.k, .tup (e.ps ++ List.replicate (lackT e) .non)]
def fullN (e : E) : Nat := e.ms.sum + lackT e
theorem sum_rep (n : Nat) : (List.replicate n 1).sum = n := by simp
theorem hasK_non {k : Str} : ¬ HasK .non k := fun ⟨_, e⟩ => by cases e
theorem Ent.full {e : E} (h : Ent e) : Sh (full e) (fullN e) := by
  have := Sh.node (ps := e.ps ++ List.replicate (lackT e) .non) (ms := e.ms ++ List.replicate (lackT e) 1) h.hk (by rw [List.length_append, List.length_replicate]; unfold lackT; omega) (fun p hp => by
    rcases List.mem_append.mp hp with z | z
    · exact h.hn p z
    · rw [(List.mem_replicate.mp z).2]; exact hasK_non) (h.sh.app (ShL.rep _))
  rw [List.sum_append, sum_rep] at this
  exact this
theorem Ent.add {e : E} (h : Ent e) {t : T} {m : Nat} (s : Sh t m) (n : ¬ HasK t e.k) : Ent ⟨e.k, e.ps ++ [t], e.ms ++ [m]⟩ := ⟨h.hk, h.sh.app (.cons s .nil), fun p hp => by
  rcases List.mem_append.mp hp with z | z
  · exact h.hn p z
  · rw [List.mem_singleton.mp z]; exact n⟩
structure Pok (kind : Str) (most : Nat) (p : List E) (top : E) : Prop where
  alt : Alt kind (p ++ [top])
  ent : ∀ e ∈ p ++ [top], Ent e
  sum : many (p ++ [top]) + (lackT top + lackB p) ≤ most
theorem Pok.start {kind : Str} {most : Nat} (hk : isK kind) (h : 2 ≤ most) : Pok kind most [] ⟨kind, [], []⟩ :=
  ⟨⟨rfl, trivial⟩, fun e he => by
    rw [List.nil_append] at he
    rw [List.mem_singleton.mp he]
    exact ⟨hk, .nil, fun p hp => absurd hp List.not_mem_nil⟩, by
    rw [List.nil_append, many_one]
    show 0 + (2 + 0) ≤ most
    omega⟩
theorem Pok.push {kind : Str} {most : Nat} {p : List E} {top : E} (h : Pok kind most p top) (r : many (p ++ [top]) + (lackT top + lackB p) + 2 ≤ most ∨ (many (p ++ [top]) + (lackT top + lackB p) + 1 ≤ most ∧ top.ps.length < 2)) : Pok kind most (p ++ [top]) ⟨oth top.k, [], []⟩ := by
  refine ⟨h.alt.push, fun e he => ?_, ?_⟩
  · rcases List.mem_append.mp he with z | z
    · exact h.ent e z
    · rw [List.mem_singleton.mp z]
      exact ⟨oth_isK _, .nil, fun p hp => absurd hp List.not_mem_nil⟩
  · rw [many_app, many_one, lackB_app, lackB_one]
    show many (p ++ [top]) + 0 + (2 + (lackB p + lackI top)) ≤ most
    unfold lackT at r
    unfold lackI
    omega
theorem Pok.leaf {kind : Str} {most : Nat} {p : List E} {top : E} (h : Pok kind most p top) (r : many (p ++ [top]) + (lackT top + lackB p) + 1 ≤ most ∨ top.ps.length < 2) : Pok kind most p ⟨top.k, top.ps ++ [.non], top.ms ++ [1]⟩ := by
  refine ⟨h.alt.snoc _ rfl, fun e he => ?_, ?_⟩
  · rcases List.mem_append.mp he with z | z
    · exact h.ent e (List.mem_append_left _ z)
    · rw [List.mem_singleton.mp z]
      exact (h.ent top (List.mem_append_right _ List.mem_cons_self)).add .leaf hasK_non
  · have h0 := h.sum
    rw [many_app, many_one] at h0 r ⊢
    have e1 : (top.ms ++ [1]).sum = top.ms.sum + 1 := by rw [List.sum_append]; rfl
    have e2 : lackT ⟨top.k, top.ps ++ [.non], top.ms ++ [1]⟩ = 2 - (top.ps.length + 1) := by unfold lackT; rw [List.length_append]; rfl
    show many p + (top.ms ++ [1]).sum + (lackT ⟨top.k, top.ps ++ [.non], top.ms ++ [1]⟩ + lackB p) ≤ most
    rw [e1, e2]
    unfold lackT at h0 r
    omega
theorem Pok.close {kind : Str} {most : Nat} {p : List E} {b top : E} (h : Pok kind most (p ++ [b]) top) : Pok kind most p ⟨b.k, b.ps ++ [full top], b.ms ++ [fullN top]⟩ := by
  have hb := h.ent b (List.mem_append_left _ (List.mem_append_right _ List.mem_cons_self))
  have ht := h.ent top (List.mem_append_right _ List.mem_cons_self)
  have k2 := h.alt.two
  refine ⟨h.alt.pop.snoc _ rfl, fun e he => ?_, ?_⟩
  · rcases List.mem_append.mp he with z | z
    · exact h.ent e (List.mem_append_left _ (List.mem_append_left _ z))
    · rw [List.mem_singleton.mp z]
      refine hb.add ht.full fun ⟨q, e⟩ => ?_
      unfold Shp.full at e
      injection e with e
      injection e with e _
      injection e with e
      exact oth_ne hb.hk (k2.symm.trans e)
  · have h0 := h.sum
    rw [many_app, many_app, many_one, many_one, lackB_app, lackB_one] at h0
    rw [many_app, many_one]
    have e1 : (b.ms ++ [fullN top]).sum = b.ms.sum + (top.ms.sum + lackT top) := by rw [List.sum_append, List.sum_singleton]; rfl
    have e2 : lackT ⟨b.k, b.ps ++ [full top], b.ms ++ [fullN top]⟩ = 2 - (b.ps.length + 1) := by unfold lackT; rw [List.length_append]; rfl
    show many p + (b.ms ++ [fullN top]).sum + (lackT ⟨b.k, b.ps ++ [full top], b.ms ++ [fullN top]⟩ + lackB p) ≤ most
    rw [e1, e2]
    unfold lackI at h0
    omega
theorem Pok.done {kind : Str} {most : Nat} {top : E} (h : Pok kind most [] top) : top.k = kind ∧ Sh (full top) (fullN top) ∧ fullN top ≤ most := by
  refine ⟨h.alt.1, (h.ent top (List.mem_append_right _ List.mem_cons_self)).full, ?_⟩
  have h0 := h.sum
  rw [List.nil_append, many_one] at h0
  have : lackB [] = 0 := rfl
  unfold fullN
  omega
mutual
inductive Cn : T → Nat → Prop where
  | non : Cn .non 1
  | int (i : Int) : Cn (.int i) 1
  | node {k : Str} {ps : List T} {ms : List Nat} (h2 : 2 ≤ ps.length) (h : CnL ps ms) : Cn (.tup [.str k, .tup ps]) ms.sum
inductive CnL : List T → List Nat → Prop where
  | nil : CnL [] []
  | cons {t : T} {m : Nat} {ts : List T} {ms : List Nat} (h : Cn t m) (r : CnL ts ms) : CnL (t :: ts) (m :: ms)
end
theorem CnL.len : ∀ {a : List T} {x : List Nat}, CnL a x → x.length = a.length
  | _, _, .nil => rfl
  | _, _, .cons _ r => by rw [List.length_cons, List.length_cons, r.len]
theorem CnL.get : ∀ {a : List T} {x : List Nat} {i : Nat} {t : T}, CnL a x → a[i]? = some t → ∃ m, x[i]? = some m ∧ Cn t m
  | _, _, _, _, .nil, e => by simp at e
  | _, _, 0, _, .cons h r, e => by simp at e; subst e; exact ⟨_, rfl, h⟩
  | _, _, i + 1, t, .cons _ r, e => by
    obtain ⟨m, h1, h2⟩ := CnL.get (i := i) (t := t) r (by simpa using e)
    exact ⟨m, by simpa using h1, h2⟩
mutual
theorem Sh.cn : ∀ {t : T} {m : Nat}, Sh t m → Cn t m
  | _, _, .leaf => .non
  | _, _, .node _ h2 _ h => .node h2 (ShL.cn h)
theorem ShL.cn : ∀ {a : List T} {x : List Nat}, ShL a x → CnL a x
  | _, _, .nil => .nil
  | _, _, .cons h r => .cons h.cn (ShL.cn r)
end
mutual
theorem good_cn : ∀ {t : T} {n : List Int}, Good t n → Cn t n.length
  | _, _, .leaf i => .int i
  | _, _, .node (ps := ps) (nss := nss) _ h2 _ h => by
    have := goodL_cn h
    rw [List.length_flatten]
    exact .node h2 this
theorem goodL_cn : ∀ {ts : List T} {nss : List (List Int)}, GoodL ts nss → CnL ts (nss.map List.length)
  | _, _, .nil => .nil
  | _, _, .cons h r => .cons (good_cn h) (goodL_cn r)
end
theorem take_sum {ms : List Nat} {i m : Nat} (h : ms[i]? = some m) : (ms.take (i + 1)).sum = (ms.take i).sum + m := by
  rw [List.take_add_one, h, List.sum_append]
  simp
theorem sum_take_le (ms : List Nat) (i : Nat) : (ms.take i).sum ≤ ms.sum := by
  have := congrArg List.sum (List.take_append_drop i ms)
  rw [List.sum_append] at this
  omega
end Shp
set_option Elab.async false
set_option linter.all false
set_option maxRecDepth 100000
namespace L2
open PySem PySem.Spec PyProof.Rows
def gLst (K : PySem.W.Frag) (n : Nat) (t : TGs) : TG := fun v σ H Q => ∃ a xs, v = .ref a ∧ SqL K H a xs ∧ xs.length = n ∧ t xs σ H Q
theorem pg_lst {X : Cx} {es : List Expr} {k : Nat} {t : TGs} {n : Nat} {pos : Pos} (hc : X.calm = true) (h : PGs X es t)
    (hn : (assignEach es X.env).length = n := by rfl) (hst : (assignEach es X.env).findIdx? (·.1) = none := by rfl) : PG X (.Tuple es k pos) (gLst X.K n t) := by
  intro pins s σ H v u Q I r hw
  obtain ⟨a, xs, e1, hq, hl, hw⟩ := hw
  subst e1
  cases r
  obtain ⟨its, rv, ht, hz⟩ := I.list hq
  rw [assign_Tuple]
  refine wpAny_bind (wpAny_standAt ?_)
  unfold unpack
  have e : (assignEach es X.env).length = its.toArray.size := by simp [hn, ← hl, rv.length]
  rw [e, hst]
  refine wpAny_bind (wpAny_holding (PySem.W.kun_itemsOf (I.ok.hd hc) ht.isList fun h' hx => ?_))
  have I1 : Inv X pins σ H { s with heap := h' } := I.kept (t' := s.toks) fun b o e => hx b o (Nat.ne_of_lt (Heap.lt_size e)) e
  exact h pins _ σ H xs _ Q I1 (by simpa using rv) hw
end L2
set_option Elab.async false
set_option linter.all false
set_option maxRecDepth 100000
namespace L2
open PySem PySem.Spec PyProof.Rows PySem.W
section
variable {X : Cx}
theorem call_intB : CallR X (.type "int") (fun xs H Q => ∃ b : Bool, xs = [.bl b] ∧ Q (.int (if b then 1 else 0)) H) := by
  intro pins s σ H xs us Q I r h
  obtain ⟨b, rfl, q⟩ := h
  obtain ⟨u, rfl, rfl⟩ := vals1 r
  exact call_int_bool ⟨.int (if b then 1 else 0), H, I.tok _, ⟨_, rfl⟩, q⟩
end
section
variable {X : Cx} {es : List Expr} {te : TE} {t : TA}
theorem pa_cT {a : List Expr} {b : Nat} {c : Pos} (ha : PE X (.Tuple a b c) te) (hr : PA X es t) : PA X (.Tuple a b c :: es) (tCons te t) := pa_cons ha hr rfl
theorem pa_cC {a : Const} {b : Nat} {c : Pos} (ha : PE X (.Constant a b c) te) (hr : PA X es t) : PA X (.Constant a b c :: es) (tCons te t) := pa_cons ha hr rfl
theorem pa_cB {a b : Expr} {o : Operator} {c : Pos} (ha : PE X (.BinOp a o b c) te) (hr : PA X es t) : PA X (.BinOp a o b c :: es) (tCons te t) := pa_cons ha hr rfl
theorem ps_setL {i : Nat} {x : Str} {es : List Expr} {te : TE} {p pos pos' : Pos} (hN : X.N.Nodup) (hi : X.N[i]? = some x) (hx : Loc X.env.scope x) (he : PE X (.List es p) te) (hf : X.fn x = true ∨ X.env.scope.names.lookup x = some .local) :
    PS X (.Assign [.Name x pos'] (.List es p) pos) (tAsg te (gName i)) := ps_set hN hi hx he rfl hf
theorem pa_cL {a : List Expr} {c : Pos} (ha : PE X (.List a c) te) (hr : PA X es t) : PA X (.List a c :: es) (tCons te t) := pa_cons ha hr rfl
end
structure Bx (p : Prop) : Prop where
  get : p
section
variable {X : Cx} {es : List Expr} {te : TE} {t : TA}
theorem b_nil : Bx (PA X [] tNil) := ⟨pa_nil⟩
theorem b_cT {a : List Expr} {b : Nat} {c : Pos} (ha : Bx (PE X (.Tuple a b c) te)) (hr : Bx (PA X es t)) : Bx (PA X (.Tuple a b c :: es) (tCons te t)) := ⟨pa_cT ha.get hr.get⟩
theorem b_cC {a : Const} {b : Nat} {c : Pos} (ha : Bx (PE X (.Constant a b c) te)) (hr : Bx (PA X es t)) : Bx (PA X (.Constant a b c :: es) (tCons te t)) := ⟨pa_cC ha.get hr.get⟩
theorem b_cB {a b : Expr} {o : Operator} {c : Pos} (ha : Bx (PE X (.BinOp a o b c) te)) (hr : Bx (PA X es t)) : Bx (PA X (.BinOp a o b c :: es) (tCons te t)) := ⟨pa_cB ha.get hr.get⟩
theorem b_tup {x1 : Nat} {pos : Pos} (h : Bx (PA X es t)) : Bx (PE X (.Tuple es x1 pos) (tTup t)) := ⟨pe_tup h.get⟩
theorem b_setL {i : Nat} {x : Str} {p pos pos' : Pos} (hN : X.N.Nodup) (hi : X.N[i]? = some x) (hx : Loc X.env.scope x) (he : Bx (PA X es t)) (hf : X.fn x = true ∨ X.env.scope.names.lookup x = some .local) :
    Bx (PS X (.Assign [.Name x pos'] (.List es p) pos) (tAsg (tLst t) (gName i))) := ⟨ps_setL hN hi hx (pe_lst he.get) hf⟩
theorem b_cons {st : Stmt} {rest : List Stmt} {t u : TS} (h1 : Bx (PS X st t)) (h2 : Bx (PSs X rest u)) : Bx (PSs X (st :: rest) (tSeq t u)) := ⟨pss_cons h1.get h2.get⟩
end
end L2
set_option Elab.async false
set_option linter.all false
set_option maxRecDepth 100000
set_option maxHeartbeats 1000000
namespace JH
open PySem L2 Lin Tre PySem.W
open Shp (Sh ShL E Ent Pok lackT lackI lackB many full fullN oth Alt)
abbrev sLack : Stmt := top 73
abbrev sShape : Stmt := top 74
mutual
theorem At.updL {H : Hp} {l : Addr} {xs ys : List V} (hl : H l = some (.lst xs)) : ∀ {v : V} {t : T}, At H v t → At (upd H l (.lst ys)) v t
  | _, _, .non => .non
  | _, _, .bl b => .bl b
  | _, _, .int i => .int i
  | _, _, .str x => .str x
  | _, _, .tup e h => .tup (by rw [upd_ne (ne_of e hl (by intro z; cases z))]; exact e) (AtL.updL hl h)
  | _, _, .lst (a := a) e => by
    by_cases z : a = l
    · rw [z]; exact .lst upd_same
    · exact .lst (by rw [upd_ne z]; exact e)
  | _, _, .dic e => .dic (by rw [upd_ne (ne_of e hl (by intro z; cases z))]; exact e)
theorem AtL.updL {H : Hp} {l : Addr} {xs ys : List V} (hl : H l = some (.lst xs)) : ∀ {vs : List V} {ts : List T}, AtL H vs ts → AtL (upd H l (.lst ys)) vs ts
  | _, _, .nil => .nil
  | _, _, .cons h r => .cons (At.updL hl h) (AtL.updL hl r)
end
def EnA (H : Hp) (ab : Addr × Addr) (e : E) : Prop := H ab.1 = some (.lst [.str e.k, .ref ab.2]) ∧ ∃ us, H ab.2 = some (.lst us) ∧ AtL H us e.ps
def EnAs (H : Hp) : List (Addr × Addr) → List E → Prop := Paired (EnA H)
def ads (abs : List (Addr × Addr)) : List Addr := abs.flatMap fun ab => [ab.1, ab.2]
def rf (ab : Addr × Addr) : V := .ref ab.1
theorem ads_app (a b : List (Addr × Addr)) : ads (a ++ b) = ads a ++ ads b := by unfold ads; rw [List.flatMap_append]
theorem ads_one (ab : Addr × Addr) : ads [ab] = [ab.1, ab.2] := rfl
theorem mem_ads {abs : List (Addr × Addr)} {ab : Addr × Addr} (h : ab ∈ abs) : ab.1 ∈ ads abs ∧ ab.2 ∈ ads abs := ⟨List.mem_flatMap.mpr ⟨ab, h, List.mem_cons_self⟩, List.mem_flatMap.mpr ⟨ab, h, List.mem_cons_of_mem _ List.mem_cons_self⟩⟩
theorem EnA.same {H H' : Hp} (S : Same H H') {ab : Addr × Addr} {e : E} (h : EnA H ab e) : EnA H' ab e := let ⟨a, us, b, c⟩ := h; ⟨S _ _ a, us, S _ _ b, c.same S⟩
theorem EnAs.same {H H' : Hp} (S : Same H H') {abs : List (Addr × Addr)} {p : List E} (h : EnAs H abs p) : EnAs H' abs p := Paired.imp' (fun _ _ => EnA.same S) h
theorem EnAs.len {H : Hp} {abs : List (Addr × Addr)} {p : List E} (h : EnAs H abs p) : abs.length = p.length := Paired.length h
theorem EnA.updL {H : Hp} {l : Addr} {xs ys : List V} (hl : H l = some (.lst xs)) {ab : Addr × Addr} {e : E} (n1 : ab.1 ≠ l) (n2 : ab.2 ≠ l) (h : EnA H ab e) : EnA (upd H l (.lst ys)) ab e := let ⟨a, us, b, c⟩ := h; ⟨by rw [upd_ne n1]; exact a, us, by rw [upd_ne n2]; exact b, c.updL hl⟩
theorem EnAs.updL {H : Hp} {l : Addr} {xs ys : List V} (hl : H l = some (.lst xs)) : ∀ {abs : List (Addr × Addr)} {p : List E}, l ∉ ads abs → EnAs H abs p → EnAs (upd H l (.lst ys)) abs p
  | _, _, _, .nil => .nil
  | _, _, n, .cons h r => .cons (h.updL hl (fun z => n (by rw [← z]; exact (mem_ads List.mem_cons_self).1)) (fun z => n (by rw [← z]; exact (mem_ads List.mem_cons_self).2))) (EnAs.updL hl (fun z => n (by
      unfold ads at z ⊢
      rw [List.flatMap_cons]
      exact List.mem_append_right _ z)) r)
theorem EnAs.get {H : Hp} : ∀ {abs : List (Addr × Addr)} {p : List E} {i : Nat} {ab : Addr × Addr}, EnAs H abs p → abs[i]? = some ab → ∃ e, p[i]? = some e ∧ EnA H ab e
  | _, _, _, _, .nil, e => by simp at e
  | _, _, 0, _, .cons r _, e => by simp at e; subst e; exact ⟨_, rfl, r⟩
  | _, _, i + 1, ab, .cons _ t, e => by
    obtain ⟨p, h1, h2⟩ := EnAs.get (i := i) (ab := ab) t (by simpa using e)
    exact ⟨p, by simpa using h1, h2⟩
structure PlAt (H0 H : Hp) (lp : Addr) (abs : List (Addr × Addr)) (ab : Addr × Addr) (p : List E) (top : E) : Prop where
  same : Same H0 H
  lst : H lp = some (.lst ((abs ++ [ab]).map rf))
  ens : EnAs H abs p
  en : EnA H ab top
  nd : (lp :: ads (abs ++ [ab])).Nodup
  fr : ∀ z ∈ lp :: ads (abs ++ [ab]), H0 z = none
section
variable {H0 H H' : Hp} {lp : Addr} {abs : List (Addr × Addr)} {ab : Addr × Addr} {p : List E} {top : E}
theorem PlAt.alloc (h : PlAt H0 H lp abs ab p top) (S : Same H H') : PlAt H0 H' lp abs ab p top := ⟨h.same.trans S, S _ _ h.lst, h.ens.same S, h.en.same S, h.nd, h.fr⟩
theorem PlAt.last (h : PlAt H0 H lp abs ab p top) : atI ((abs ++ [ab]).map rf) (-1) = some (.ref ab.1) := by
  rw [List.map_append]
  exact atI_last _ _
theorem PlAt.add (h : PlAt H0 H lp abs ab p top) {us : List V} {v : V} {t : T} (hu : H ab.2 = some (.lst us)) (hA : AtL H us top.ps) (hv : At H v t) (ms : List Nat) : PlAt H0 (upd H ab.2 (.lst (us ++ [v]))) lp abs ab p ⟨top.k, top.ps ++ [t], ms⟩ := by
  have nd := h.nd
  rw [ads_app, ads_one] at nd
  have hfr := h.fr ab.2 (by rw [ads_app, ads_one]; exact List.mem_cons_of_mem _ (List.mem_append_right _ (List.mem_cons_of_mem _ List.mem_cons_self)))
  obtain ⟨n1, n2⟩ := List.nodup_cons.mp nd
  obtain ⟨n3, n4, n5⟩ := List.nodup_append.mp n2
  have d1 : lp ≠ ab.2 := fun z => n1 (by rw [z]; exact List.mem_append_right _ (List.mem_cons_of_mem _ List.mem_cons_self))
  have d2 : ab.1 ≠ ab.2 := fun z => (List.nodup_cons.mp n4).1 (by rw [z]; exact List.mem_cons_self)
  have d3 : ab.2 ∉ ads abs := fun z => n5 _ z _ (List.mem_cons_of_mem _ List.mem_cons_self) rfl
  refine ⟨same_upd h.same hfr, by rw [upd_ne d1]; exact h.lst, h.ens.updL hu d3, ⟨by rw [upd_ne d2]; exact h.en.1, _, upd_same, ?_⟩, h.nd, h.fr⟩
  exact (hA.updL hu).app (.cons (hv.updL hu) .nil)
theorem PlAt.push (h : PlAt H0 H lp abs ab p top) {a b : Addr} {k : Str} (S : Same H H') (na : H a = none) (nb : H b = none) (dab : a ≠ b) (ha : H' a = some (.lst [.str k, .ref b])) (hb : H' b = some (.lst [])) : PlAt H0 (upd H' lp (.lst ((abs ++ [ab]).map rf ++ [.ref a]))) lp (abs ++ [ab]) (a, b) (p ++ [top]) ⟨k, [], []⟩ := by
  have h' := h.alloc S
  have hfr := h.fr lp List.mem_cons_self
  obtain ⟨n1, n2⟩ := List.nodup_cons.mp h.nd
  have fre : ∀ z, H z = none → H0 z = none := fun z e => h.same.free e
  have inH : ∀ z ∈ lp :: ads (abs ++ [ab]), H z ≠ none := fun z hz e => by
    rcases List.mem_cons.mp hz with q | q
    · rw [q, h.lst] at e; cases e
    · rw [ads_app] at q
      rcases List.mem_append.mp q with q | q
      · unfold ads at q
        obtain ⟨cd, hc, hq⟩ := List.mem_flatMap.mp q
        obtain ⟨i, hi, ei⟩ := List.mem_iff_getElem.mp hc
        obtain ⟨e', _, hE⟩ := h.ens.get (i := i) (ab := cd) (by rw [List.getElem?_eq_getElem hi, ei])
        rcases List.mem_cons.mp hq with r | r
        · rw [r, hE.1] at e; cases e
        · rw [List.mem_singleton.mp r] at e
          obtain ⟨us, e2, _⟩ := hE.2
          rw [e2] at e; cases e
      · rcases List.mem_cons.mp q with r | r
        · rw [r, h.en.1] at e; cases e
        · rw [List.mem_singleton.mp r] at e
          obtain ⟨us, e2, _⟩ := h.en.2
          rw [e2] at e; cases e
  have la : a ∉ lp :: ads (abs ++ [ab]) := fun z => inH a z na
  have lb : b ∉ lp :: ads (abs ++ [ab]) := fun z => inH b z nb
  have d1 : a ≠ lp := fun z => la (by rw [z]; exact List.mem_cons_self)
  have d2 : b ≠ lp := fun z => lb (by rw [z]; exact List.mem_cons_self)
  have ens2 : EnAs H' (abs ++ [ab]) (p ++ [top]) := Paired.snoc h'.ens h'.en
  refine ⟨same_upd h'.same hfr, by rw [upd_same, List.map_append (l₂ := [(a, b)])]; rfl, ens2.updL h'.lst n1, ⟨by rw [upd_ne d1]; exact ha, [], by rw [upd_ne d2]; exact hb, .nil⟩, ?_, fun z hz => ?_⟩
  · rw [ads_app (abs ++ [ab]), ads_one, ← List.cons_append]
    refine List.nodup_append.mpr ⟨h.nd, List.nodup_cons.mpr ⟨fun z => dab (List.mem_singleton.mp z), List.nodup_cons.mpr ⟨List.not_mem_nil, List.nodup_nil⟩⟩, fun x hx y hy e => ?_⟩
    rw [e] at hx
    rcases List.mem_cons.mp hy with r | r
    · rw [r] at hx; exact la hx
    · rw [List.mem_singleton.mp r] at hx; exact lb hx
  · rw [ads_app (abs ++ [ab]), ads_one, ← List.cons_append] at hz
    rcases List.mem_append.mp hz with q | q
    · exact h.fr z q
    · rcases List.mem_cons.mp q with r | r
      · rw [r]; exact fre _ na
      · rw [List.mem_singleton.mp r]; exact fre _ nb
theorem PlAt.pop {b : E} (h : PlAt H0 H lp abs ab (p ++ [b]) top) : ∃ abs' ab', abs = abs' ++ [ab'] ∧ PlAt H0 (upd H lp (.lst ((abs ++ [ab]).map rf).dropLast)) lp abs' ab' p b ∧ EnA (upd H lp (.lst ((abs ++ [ab]).map rf).dropLast)) ab top := by
  obtain ⟨abs', ab', rfl, h1, h2⟩ := Paired.unsnoc h.ens
  obtain ⟨n1, n2⟩ := List.nodup_cons.mp h.nd
  have hfr := h.fr lp List.mem_cons_self
  rw [ads_app] at n1 n2
  obtain ⟨n3, n4, n5⟩ := List.nodup_append.mp n2
  have m1 : lp ∉ ads (abs' ++ [ab']) := fun z => n1 (List.mem_append_left _ z)
  have ens2 : EnAs H (abs' ++ [ab']) (p ++ [b]) := h.ens
  have ens3 := ens2.updL (ys := ((abs' ++ [ab'] ++ [ab]).map rf).dropLast) h.lst m1
  obtain ⟨_, _, e, g1, g2⟩ := Paired.unsnoc ens3
  obtain ⟨e1, e2⟩ := List.append_inj' e rfl
  injection e2 with e2
  subst e1 e2
  refine ⟨_, _, rfl, ⟨same_upd h.same hfr, by rw [upd_same, List.map_append (l₂ := [ab]), List.map_cons, List.map_nil, List.dropLast_concat], g1, g2, List.nodup_cons.mpr ⟨m1, n3⟩, fun z hz => h.fr z ?_⟩, h.en.updL h.lst (fun z => n1 ?_) (fun z => n1 ?_)⟩
  · rcases List.mem_cons.mp hz with q | q
    · rw [q]; exact List.mem_cons_self
    · rw [ads_app _ [ab]]
      exact List.mem_cons_of_mem _ (List.mem_append_left _ q)
  · rw [← z]; exact List.mem_append_right _ List.mem_cons_self
  · rw [← z]; exact List.mem_append_right _ (List.mem_cons_of_mem _ List.mem_cons_self)
end
def spLack : Sp := fun vs H Q _ => ∃ (lp : Addr) (abs : List (Addr × Addr)) (ab : Addr × Addr) (p : List E) (top : E), vs = [.ref lp] ∧ H lp = some (.lst ((abs ++ [ab]).map rf)) ∧ EnAs H abs p ∧ EnA H ab top ∧ abs.length ≤ 1000 ∧ ∀ H', Same H H' → Q (nV (lackT top + lackB p)) H'
section
variable {P : Program} {w : World} {K : PySem.W.Frag} {mg : Str → Option Value} {base : Heap}
theorem scLack : FnScope ["pile", "lack", "kind", "parts"] ["pile"] (defScope sLack) := ⟨rfl, rfl, rfl, by decide +kernel, rfl, by decide +kernel, by decide +kernel⟩
theorem ok_lack {f : Addr} {fd : FuncData} (F : Fun K "_law_lack" "_law_lack" sLack f fd) (tl : mg "len" = none) (tmax : mg "max" = none) : FnOk P w K mg base CX0 1 f fd ["pile"] spLack := by
  refine F.ok scLack (fun vs H Q E h => ?_) (fun cdv A outer s H vs Q E hr h => ?_)
  · obtain ⟨lp, abs, ab, p, top, rfl, _⟩ := h
    rfl
  · obtain ⟨lp, abs, ab, p, top, rfl, hlp, hE, hT, l1000, q⟩ := h
    refine ⟨_, (pss_cons (ps_set (i := 1) scLack.nd rfl (Or.inl rfl) (pe_callB (call_max2 rfl) (by rfl) tmax PyProof.Rows.boot_max (pa_cons pe_int (pa_cons (pe_op op_sub pe_int (pe_callB call_len_seq (by rfl) tl PySem.boot_len (pa_cons (pe_ix ix_list (pe_ix ix_list (pv 0) (pe_un un_neg pe_int) (fun _ _ => rfl)) pe_int (fun _ _ => rfl)) pa_nil))) pa_nil))))
      (pss_cons (ps_for PassesOwn.never rfl (pi_list (pe_slice sl_list (pv 0) po_none (po_some (pe_un un_neg pe_int)))) (pg_lst rfl (pgs_cons (pg_name (i := 2) scLack.nd rfl (Or.inl rfl)) (pgs_cons (pg_name (i := 3) scLack.nd rfl (Or.inl rfl)) pgs_nil)))
      (pss_one (ps_set (i := 1) scLack.nd rfl (Or.inl rfl) (pe_op op_add (pv 1) (pe_callB (call_max2 rfl) (by rfl) tmax PyProof.Rows.boot_max (pa_cons pe_int (pa_cons (pe_op op_sub pe_int (pe_callB call_len_seq (by rfl) tl PySem.boot_len (pa_cons (pv 3) pa_nil))) pa_nil)))))))
      (pss_one (ps_ret (pv 1))))), ?_⟩
    obtain ⟨h1, us, h2, hA⟩ := hT
    have lA := hA.len
    have lE := hE.len
    have ez : atI ((abs ++ [ab]).map rf) (-1) = some (.ref ab.1) := by
      rw [List.map_append]
      exact atI_last _ _
    refine seq_asg (v := nV (lackT top)) (fun Q q => ⟨_, rfl, 1, rfl, lp, _, _, _, rfl, rfl, SqL.of hlp, ez, ab.1, _, _, _, rfl, rfl, SqL.of h1, rfl, ab.2, us, rfl, .inl (SqL.of h2), _, _, rfl, rfl, _, _, rfl, (by
      show Q (V.int (if (2 : Int) - ((us.length : Nat) : Int) > 0 then (2 : Int) - ((us.length : Nat) : Int) else 0)) H
      rw [show (if (2 : Int) - ((us.length : Nat) : Int) > 0 then (2 : Int) - ((us.length : Nat) : Int) else 0) = ((lackT top : Nat) : Int) by unfold lackT; split <;> omega]
      exact q)⟩) ?_
    refine run_seq ⟨_, rfl, 1, rfl, _, rfl, lp, _, rfl, SqL.of hlp, fun p1 n1 => ?_⟩
    rw [cut_last (by rw [List.length_map, List.length_append]; exact Nat.succ_pos _), List.map_append, List.map_cons, List.map_nil, List.dropLast_concat]
    have S1 := same_new (o := .lst (abs.map rf)) n1
    have hp1 : (upd H p1 (.lst (abs.map rf))) p1 = some (.lst (abs.map rf)) := upd_same
    have hE1 := hE.same S1
    generalize upd H p1 (.lst (abs.map rf)) = H1 at S1 hp1 hE1
    refine ⟨p1, rfl, ⟨_, SqL.of hp1⟩, ?_⟩
    refine for_list (K := K) (a := p1) (xs := abs.map rf) (fun i σ H2 => ∃ o2 o3 : Option V, σ = [some (.ref lp), some (nV (lackT top + lackB (p.take i))), o2, o3] ∧ H2 = H1) ⟨none, none, rfl, rfl⟩ (fun i σ H2 _ ⟨_, _, _, e⟩ => by rw [e]; exact SqL.of hp1) ?_ ?_
    · rintro i x σ H2 hi ⟨o2, o3, rfl, rfl⟩
      rw [List.getElem?_map] at hi
      obtain ⟨cd, hcd, rfl⟩ := Option.map_eq_some_iff.mp hi
      obtain ⟨e, he, h3, ws, h4, hB⟩ := hE1.get hcd
      have lB := hB.len
      refine ⟨cd.1, _, rfl, SqL.of h3, rfl, _, _, rfl, _, _, rfl, rfl, ?_⟩
      refine ⟨_, rfl, _, rfl, cd.2, ws, rfl, .inl (SqL.of h4), _, _, rfl, rfl, _, _, rfl, _, _, rfl, rfl, ?_⟩
      have e5 : ((lackT top + lackB (p.take i) : Nat) : Int) + (if (1 : Int) - ((ws.length : Nat) : Int) > 0 then (1 : Int) - ((ws.length : Nat) : Int) else 0) = ((lackT top + lackB (p.take (i + 1)) : Nat) : Int) := by
        rw [List.take_add_one, he, Shp.lackB_app]
        show _ = ((lackT top + (lackB (p.take i) + lackB [e]) : Nat) : Int)
        rw [Shp.lackB_one]
        unfold lackI
        split <;> omega
      exact ⟨_, _, congrArg (fun z => [some (V.ref lp), some (V.int z), some (V.str e.k), some (V.ref cd.2)]) e5, rfl⟩
    · rintro σ H2 ⟨o2, o3, rfl, rfl⟩
      refine ⟨_, rfl, ?_⟩
      rw [List.length_map, lE, List.take_length]
      exact q _ S1
end
end JH
set_option Elab.async false
set_option linter.all false
set_option maxRecDepth 100000
set_option maxHeartbeats 1000000
namespace JH
open PySem L2 Lin Tre PySem.W
open Shp (Sh ShL E Ent Pok lackT lackI lackB many full fullN oth Alt)
theorem rep_non (k : Nat) : (List.replicate k [V.non]).flatten = List.replicate k V.non := by
  induction k with
  | zero => rfl
  | succ k ih => rw [List.replicate_succ, List.flatten_cons, ih, List.replicate_succ]; rfl
theorem AtL.nons {H : Hp} : ∀ k : Nat, AtL H (List.replicate k V.non) (List.replicate k T.non)
  | 0 => .nil
  | k + 1 => by
    rw [List.replicate_succ, List.replicate_succ]
    exact .cons .non (AtL.nons k)
theorem many_top (p : List E) (top : E) : many (p ++ [top]) = many p + top.ms.sum := by rw [Shp.many_app, Shp.many_one]
theorem Ent.len {e : E} (h : Ent e) : e.ps.length ≤ e.ms.sum := h.sh.sum
theorem Pok.small {kind : Str} {most : Nat} {p : List E} {top : E} (h : Pok kind most p top) : top.ps.length ≤ most := by
  have h0 := h.sum
  rw [many_top] at h0
  have := Ent.len (h.ent top (List.mem_append_right _ List.mem_cons_self))
  omega
theorem other_sign (k : Str) (hk : isK k) : ∃ c : Nat, atI [124, 45] (if decide (V.str k = V.str "|") then (1 : Int) else 0) = some c ∧ txt [c] = oth k := by
  unfold oth
  rcases hk with e | e
  · rw [e, decide_eq_true (show V.str bar = V.str "|" from rfl), if_pos rfl]
    exact ⟨45, rfl, by decide +kernel⟩
  · rw [e, decide_eq_false (fun z : V.str dash = V.str "|" => bar_dash (V.str.inj z)), if_neg (fun z => bar_dash z)]
    exact ⟨124, rfl, by decide +kernel⟩
theorem two_ends {p : List E} (h : 1 ≤ p.length) : ∃ p' b, p = p' ++ [b] := by
  have hne : p ≠ [] := by intro z; rw [z] at h; exact absurd h (by decide)
  exact ⟨p.dropLast, p.getLast hne, (List.dropLast_concat_getLast hne).symm⟩
def spShape : Sp := fun vs H Q _ => ∃ (a : Addr) (ns : List Int) (kind : Str) (most : Nat), vs = [.ref a, .str kind, .int most] ∧ H a = some (.lst (ns.map V.int)) ∧ ns.length ≤ 100 ∧ isK kind ∧ 2 ≤ most ∧ most ≤ 24 ∧ ∀ (v : V) (t : T) (m : Nat) (H' : Hp), Same H H' → At H' v t → Sh t m → m ≤ most → Q v H'
section
variable {P : Program} {w : World} {K : PySem.W.Frag} {mg : Str → Option Value} {base : Heap}
theorem scShape : FnScope ["cells", "kind", "most", "pile", "many", "cell", "room", "closed"] ["cells", "kind", "most"] (defScope sShape) := ⟨rfl, rfl, rfl, by decide +kernel, rfl, by decide +kernel, by decide +kernel⟩
theorem ok_shape {f fL : Addr} {fd dL : FuncData} (F : Fun K "_law_shape" "_law_shape" sShape f fd) (tl : mg "len" = none) (tint : mg "int" = none) (ttup : mg "tuple" = none) (La : Callee P w K mg base CX0 1 "_law_lack" fL dL ["pile"] spLack) : FnOk P w K mg base CX0 2 f fd ["cells", "kind", "most"] spShape := by
  refine F.ok scShape (fun vs H Q E h => ?_) (fun cdv A outer s H vs Q E hr h => ?_)
  · obtain ⟨a, ns, kind, most, rfl, _⟩ := h
    rfl
  · obtain ⟨a, ns, kind, most, rfl, ha, hn, hk, m2, m24, q⟩ := h
    refine ⟨_, (pss_cons (ps_if (PW.pt (pw_or (pt_cmpR op_lt (pv 2) pe_int (nomark _)) (pw_or1 (pt_cmpR (op_eqR hr.units) (pv 0) (pe_lst pa_nil) (nomark _)))))
      (pss_one (ps_ret pe_non))
      pss_nil)
      (pss_cons (ps_set (i := 3) scShape.nd rfl (Or.inl rfl) (pe_lst (pa_cons (pe_lst (pa_cons (pv 1) (pa_cons (pe_lst pa_nil) pa_nil))) pa_nil)))
      (pss_cons (ps_set (i := 4) scShape.nd rfl (Or.inl rfl) pe_int)
      (pss_cons (ps_for PassesOwn.never rfl (pi_list (pv 0)) (pg_name (i := 5) scShape.nd rfl (Or.inl rfl))
      (pss_cons (ps_set (i := 6) scShape.nd rfl (Or.inl rfl) (pe_op op_sub (pe_op op_sub (pv 2) (pv 4)) (pe_call La.ok hr rfl La.bound La.kp La.bd .nil pass0 (pa_cons (pv 3) pa_nil))))
        (pss_one (ps_if (PW.pt (pw_and (pt_cmpR op_eq (pe_op op_mod (pv 5) pe_int) pe_int (nomark _)) (pw_and1 (PW.pt (pw_or (pt_cmpR op_gt (pv 6) pe_int (nomark _)) (pw_or1 (PW.pt (pw_and (pt_cmpR op_eq (pv 6) pe_int (nomark _)) (pw_and1 (pt_cmpR op_lt (pe_callB call_len_seq (by rfl) tl PySem.boot_len (pa_cons (pe_ix ix_list (pe_ix ix_list (pv 3) (pe_un un_neg pe_int) (fun _ _ => rfl)) pe_int (fun _ _ => rfl)) pa_nil)) pe_int (nomark _)))))))))))
        (pss_one (ps_expr (pe_bm PySem.F.plainAttrs_list PySem.F.slot_list_append PySem.F.type_list_append mt_append (pv 3) (pa_cons (pe_lst (pa_cons (pe_ix ix_sign pe_str (pe_callTy call_intB rfl tint PyProof.Rows.boot_int (pa_cons (pe_cmpR op_eq (pe_ix ix_list (pe_ix ix_list (pv 3) (pe_un un_neg pe_int) (fun _ _ => rfl)) pe_int (fun _ _ => rfl)) pe_str (nomark _)) pa_nil)) (fun _ _ => rfl)) (pa_cons (pe_lst pa_nil) pa_nil))) pa_nil))))
        (pss_one (ps_if (PW.pt (pw_and (pt_cmpR op_eq (pe_op op_mod (pv 5) pe_int) pe_int (nomark _)) (pw_and (pt_cmpR op_gt (pe_callB call_len_seq (by rfl) tl PySem.boot_len (pa_cons (pv 3) pa_nil)) pe_int (nomark _)) (pw_and1 (pt_cmpR op_gt (pe_callB call_len_seq (by rfl) tl PySem.boot_len (pa_cons (pe_ix ix_list (pe_ix ix_list (pv 3) (pe_un un_neg pe_int) (fun _ _ => rfl)) pe_int (fun _ _ => rfl)) pa_nil)) pe_int (nomark _))))))
          (pss_cons (ps_set (i := 7) scShape.nd rfl (Or.inl rfl) (pe_bm0 PySem.F.plainAttrs_list PySem.F.slot_list_pop PySem.F.type_list_pop mt_pop (pv 3)))
            (pss_one (ps_expr (pe_bm PySem.F.plainAttrs_list PySem.F.slot_list_append PySem.F.type_list_append mt_append (pe_ix ix_list (pe_ix ix_list (pv 3) (pe_un un_neg pe_int) (fun _ _ => rfl)) pe_int (fun _ _ => rfl)) (pa_cons (pe_tup (pa_cons (pe_ix ix_list (pv 7) pe_int (fun _ _ => rfl)) (pa_cons (pe_callTy call_tuple_of rfl ttup PyProof.Rows.boot_tuple (pa_cons (pe_ix ix_list (pv 7) pe_int (fun _ _ => rfl)) pa_nil)) pa_nil))) pa_nil)))))
          (pss_one (ps_if (PW.pt (pw_or (pt_cmpR op_gt (pv 6) pe_int (nomark _)) (pw_or1 (pt_cmpR op_lt (pe_callB call_len_seq (by rfl) tl PySem.boot_len (pa_cons (pe_ix ix_list (pe_ix ix_list (pv 3) (pe_un un_neg pe_int) (fun _ _ => rfl)) pe_int (fun _ _ => rfl)) pa_nil)) pe_int (nomark _)))))
            (pss_cons (ps_expr (pe_bm PySem.F.plainAttrs_list PySem.F.slot_list_append PySem.F.type_list_append mt_append (pe_ix ix_list (pe_ix ix_list (pv 3) (pe_un un_neg pe_int) (fun _ _ => rfl)) pe_int (fun _ _ => rfl)) (pa_cons pe_non pa_nil)))
              (pss_one (ps_set (i := 4) scShape.nd rfl (Or.inl rfl) (pe_op op_add (pv 4) pe_int))))
            pss_nil))))))))
      (pss_cons (ps_while PassesOwn.never (pt_cmpR op_gt (pe_callB call_len_seq (by rfl) tl PySem.boot_len (pa_cons (pv 3) pa_nil)) pe_int (nomark _))
      (pss_cons (ps_set (i := 7) scShape.nd rfl (Or.inl rfl) (pe_bm0 PySem.F.plainAttrs_list PySem.F.slot_list_pop PySem.F.type_list_pop mt_pop (pv 3)))
        (pss_one (ps_expr (pe_bm PySem.F.plainAttrs_list PySem.F.slot_list_append PySem.F.type_list_append mt_append (pe_ix ix_list (pe_ix ix_list (pv 3) (pe_un un_neg pe_int) (fun _ _ => rfl)) pe_int (fun _ _ => rfl)) (pa_cons (pe_tup (pa_cons (pe_ix ix_list (pv 7) pe_int (fun _ _ => rfl)) (pa_cons (pe_callTy call_tuple_of rfl ttup PyProof.Rows.boot_tuple (pa_cons (pe_op op_cat (pe_ix ix_list (pv 7) pe_int (fun _ _ => rfl)) (pe_op op_rep (pe_lst (pa_cons pe_non pa_nil)) (pe_op op_sub pe_int (pe_callB call_len_seq (by rfl) tl PySem.boot_len (pa_cons (pe_ix ix_list (pv 7) pe_int (fun _ _ => rfl)) pa_nil))))) pa_nil)) pa_nil))) pa_nil))))))
      (pss_one (ps_ret (pe_tup (pa_cons (pv 1) (pa_cons (pe_callTy call_tuple_of rfl ttup PyProof.Rows.boot_tuple (pa_cons (pe_op op_cat (pe_ix ix_list (pe_ix ix_list (pv 3) pe_int (fun _ _ => rfl)) pe_int (fun _ _ => rfl)) (pe_op op_rep (pe_lst (pa_cons pe_non pa_nil)) (pe_op op_sub pe_int (pe_callB call_len_seq (by rfl) tl PySem.boot_len (pa_cons (pe_ix ix_list (pe_ix ix_list (pv 3) pe_int (fun _ _ => rfl)) pe_int (fun _ _ => rfl)) pa_nil))))) pa_nil)) pa_nil)))))))))), ?_⟩
    refine ⟨_, rfl, _, _, rfl, rfl, _, rfl, ?_⟩
    rw [decide_eq_false (show ¬ ((most : Nat) : Int) < 2 by omega)]
    refine iteF ?_
    refine ⟨_, rfl, by show 0 ≤ sizeLine; decide, fun le nle => ?_⟩
    have S1 := same_new (o := .lst []) nle
    have he : upd H le (.lst []) le = some (.lst []) := upd_same
    have ha1 := S1 _ _ ha
    generalize upd H le (.lst []) = H1 at S1 he ha1
    refine ⟨_, _, 1, _, rfl, rfl, eq_empty ha1 he, by decide, _, rfl, ?_⟩
    refine ite2 (fun _ => q .non .non 1 H1 S1 .non .leaf (by omega)) (fun _ => ?_)
    refine run_next ?_
    dsimp only
    -- the pile
    refine seq_lst ⟨_, rfl, by show 0 ≤ sizeLine; decide, fun b nb => ⟨by show 2 ≤ sizeLine; decide, fun a1 na1 => ⟨by show 1 ≤ sizeLine; decide, fun lp nlp => ?_⟩⟩⟩
    have S2 := same_new (o := .lst []) nb
    have hb : upd H1 b (.lst []) b = some (.lst []) := upd_same
    generalize upd H1 b (.lst []) = H2 at S2 hb na1 nlp
    have S3 := same_new (o := .lst [.str kind, .ref b]) na1
    have ha3 : upd H2 a1 (.lst [.str kind, .ref b]) a1 = some (.lst [.str kind, .ref b]) := upd_same
    have hb3 := S3 _ _ hb
    have nab : a1 ≠ b := fun z => by rw [z, hb] at na1; cases na1
    generalize upd H2 a1 (.lst [.str kind, .ref b]) = H3 at S3 ha3 hb3 nlp
    have S4 := same_new (o := .lst [.ref a1]) nlp
    have hlp : upd H3 lp (.lst [.ref a1]) lp = some (.lst [.ref a1]) := upd_same
    have n1 : lp ≠ a1 := fun z => by rw [z, ha3] at nlp; cases nlp
    have n2 : lp ≠ b := fun z => by rw [z, hb3] at nlp; cases nlp
    generalize upd H3 lp (.lst [.ref a1]) = H4 at S4 hlp
    have S14 := S2.trans (S3.trans S4)
    have S04 := S1.trans S14
    have pl0 : PlAt H H4 lp [] (a1, b) [] ⟨kind, [], []⟩ := ⟨S04, hlp, .nil, ⟨S4 _ _ ha3, [], S4 _ _ hb3, .nil⟩, List.nodup_cons.mpr ⟨fun z => by
        rcases List.mem_cons.mp z with r | r
        · exact n1 r
        · exact n2 (List.mem_singleton.mp r), List.nodup_cons.mpr ⟨fun z => nab (List.mem_singleton.mp z), List.nodup_cons.mpr ⟨List.not_mem_nil, List.nodup_nil⟩⟩⟩, fun z hz => by
        rcases List.mem_cons.mp hz with r | r
        · rw [r]; exact (S1.trans (S2.trans S3)).free nlp
        · rcases List.mem_cons.mp r with r | r
          · rw [r]; exact (S1.trans S2).free na1
          · rw [List.mem_singleton.mp r]; exact S1.free nb⟩
    refine run_gname ?_
    try dsimp only
    refine run_seq ⟨_, rfl, a, rfl, ⟨_, SqL.of (S04 _ _ ha)⟩, ?_⟩
    refine for_list (K := K) (a := a) (xs := ns.map V.int) (fun i σ H5 => ∃ (abs : List (Addr × Addr)) (ab : Addr × Addr) (p : List Shp.E) (top : Shp.E) (o5 o6 o7 : Option V), σ = [some (.ref a), some (.str kind), some (.int most), some (.ref lp), some (nV (many (p ++ [top]))), o5, o6, o7] ∧ PlAt H H5 lp abs ab p top ∧ Pok kind most p top ∧ p.length ≤ i)
      ⟨[], _, [], _, none, none, none, rfl, pl0, Pok.start hk m2, Nat.le_refl _⟩ (fun i σ H5 _ ⟨_, _, _, _, _, _, _, _, pl, _, _⟩ => SqL.of (pl.same _ _ ha)) ?_ ?_
    · rintro i x σ H5 hi ⟨abs, ab, p, top, o5, o6, o7, rfl, pl, ok, lp1⟩
      rw [List.getElem?_map] at hi
      obtain ⟨c, hc, rfl⟩ := Option.map_eq_some_iff.mp hi
      obtain ⟨hil, _⟩ := List.getElem?_eq_some_iff.mp hc
      refine run_gname ?_
      try dsimp only
      have lE := pl.ens.len
      refine ⟨_, rfl, _, rfl, _, _, rfl, rfl, _, rfl, lp, abs, ab, p, top, rfl, pl.lst, pl.ens, pl.en, by omega, fun H6 S6 => ⟨_, _, rfl, rfl, ?_⟩⟩
      have pl6 := pl.alloc S6
      have hsum := ok.sum
      have hsm := Pok.small ok
      obtain ⟨h1, us, h2, hA⟩ := pl6.en
      have lA := hA.len
      refine run_gname ?_
      try dsimp only
      have evL : ∀ {σ : St}, σ[3]? = some (some (.ref lp)) → Evl (tCB (fun xs H Q => ∃ p ys, xs = [.ref p] ∧ (SqL K H p ys ∨ SqT K H p ys) ∧ Q (.int ys.length) H) (tCons (tOp (rIxL K) (tOp (rIxL K) (tVar 3) (tUn (rU fun i => .int (-i)) (tC (.int 1)))) (tC (.int 1))) tNil)) σ H6 (.int us.length) := fun z => evl_lenL (evl_ixL (evl_ixL (evl_var z) (evl_U evl_c) (SqL.of pl6.lst) pl6.last) evl_c (SqL.of h1) rfl) (SqL.of h2)
      refine tst_if (p := c % 4 = 0 ∧ ((1 : Int) < ((most : Nat) : Int) - ((many (p ++ [top]) : Nat) : Int) - ((lackT top + lackB p : Nat) : Int) ∨ (((most : Nat) : Int) - ((many (p ++ [top]) : Nat) : Int) - ((lackT top + lackB p : Nat) : Int) = 1 ∧ ((us.length : Nat) : Int) < 2)))
        (tst_andL (tst_of (evl_eqI (evl_I (evl_var rfl) evl_c (show (0 : Int) < 4 by decide)) evl_c)) fun _ => tst_orL (tst_of (evl_I0 (evl_var rfl) evl_c)) fun _ => tst_andL (tst_of (evl_eqI (evl_var rfl) evl_c)) fun _ => tst_of (evl_I0 (evL rfl) evl_c)) (fun cc => ?_) (fun _ => ?_)
      · -- one more knot
        obtain ⟨ch, hch, ech⟩ := other_sign top.k (ok.ent top (List.mem_append_right _ List.mem_cons_self)).hk
        refine ⟨_, rfl, .inl ⟨rfl, _, SqL.of pl6.lst⟩, _, rfl, 1, rfl, lp, _, _, _, rfl, rfl, SqL.of pl6.lst, pl6.last, ab.1, _, _, _, rfl, rfl, SqL.of h1, rfl, rfl, _, rfl, [124, 45], _, ch, congrArg V.str strokes, rfl, by decide, hch, by show 0 ≤ sizeLine; decide, fun b2 nb2 => ⟨by show 2 ≤ sizeLine; decide, fun a2 na2 => ?_⟩⟩
        rw [ech]
        have T1 := same_new (o := .lst []) nb2
        have hb2 : upd H6 b2 (.lst []) b2 = some (.lst []) := upd_same
        have na6 := T1.free na2
        generalize upd H6 b2 (.lst []) = H7 at T1 hb2 na2
        have T2 := same_new (o := .lst [.str (oth top.k), .ref b2]) na2
        have ha2 : upd H7 a2 (.lst [.str (oth top.k), .ref b2]) a2 = some (.lst [.str (oth top.k), .ref b2]) := upd_same
        have hb2' := T2 _ _ hb2
        have nab2 : a2 ≠ b2 := fun z => by rw [z, hb2] at na2; cases na2
        generalize upd H7 a2 (.lst [.str (oth top.k), .ref b2]) = H8 at T2 ha2 hb2'
        have T12 := T1.trans T2
        refine ⟨lp, _, _, rfl, rfl, T12 _ _ pl6.lst, by rw [List.length_map, List.length_append]; exact Nat.lt_of_le_of_lt (show _ ≤ 1000 by have : [ab].length = 1 := rfl; omega) (by decide), ?_⟩
        refine ⟨abs ++ [ab], (a2, b2), p ++ [top], ⟨oth top.k, [], []⟩, some (.int c), some (.int (((most : Nat) : Int) - ((many (p ++ [top]) : Nat) : Int) - ((lackT top + lackB p : Nat) : Int))), o7, ?_, pl6.push T12 na6 nb2 nab2 ha2 hb2', ok.push (by
          rw [lA] at cc
          rcases cc.2 with z | z
          · exact .inl (by omega)
          · exact .inr ⟨by omega, by omega⟩), by rw [List.length_append]; exact Nat.succ_le_succ lp1⟩
        rw [many_top (p ++ [top])]
        rfl
      · have lpl : ∀ {σ : St}, σ[3]? = some (some (.ref lp)) → Evl (tCB (fun xs H Q => ∃ p ys, xs = [.ref p] ∧ (SqL K H p ys ∨ SqT K H p ys) ∧ Q (.int ys.length) H) (tCons (tVar 3) tNil)) σ H6 (.int (((abs ++ [ab]).map rf).length : Nat)) := fun z => evl_lenL (evl_var z) (SqL.of pl6.lst)
        refine tst_if (p := c % 4 = 3 ∧ ((1 : Int) < ((((abs ++ [ab]).map rf).length : Nat) : Int) ∧ (1 : Int) < ((us.length : Nat) : Int)))
          (tst_andL (tst_of (evl_eqI (evl_I (evl_var rfl) evl_c (show (0 : Int) < 4 by decide)) evl_c)) fun _ => tst_andL (tst_of (evl_I0 (lpl rfl) evl_c)) fun _ => tst_of (evl_I0 (evL rfl) evl_c)) (fun cc => ?_) (fun _ => ?_)
        · -- the topmost knot is closed
          obtain ⟨_, c1, c2⟩ := cc
          rw [List.length_map, List.length_append] at c1
          have c1 : 1 ≤ p.length := by have : [ab].length = 1 := rfl; omega
          obtain ⟨p', e, rfl⟩ := two_ends c1
          obtain ⟨abs', ab', rfl, pl7, en7⟩ := pl6.pop
          refine ⟨_, rfl, .inl ⟨rfl, _, SqL.of pl6.lst⟩, lp, _, .ref ab.1, rfl, rfl, pl6.lst, (by simp [rf]), ?_⟩
          generalize upd H6 lp (.lst ((abs' ++ [ab'] ++ [ab]).map rf).dropLast) = H7 at pl7 en7
          refine run_gname ?_
          try dsimp only
          obtain ⟨g1, us7, g2, gA⟩ := en7
          have l7 := gA.len
          obtain ⟨k1, ws, k2, kA⟩ := pl7.en
          have lk := kA.len
          have okc := ok.close
          have smc := Pok.small okc
          rw [List.length_append] at smc
          refine ⟨_, rfl, 1, rfl, lp, _, _, _, rfl, rfl, SqL.of pl7.lst, pl7.last, ab'.1, _, _, _, rfl, rfl, SqL.of k1, rfl, .inl ⟨rfl, _, SqL.of k2⟩, _, rfl, ab.1, _, _, _, rfl, rfl, SqL.of g1, rfl, _, rfl, ab.1, _, _, _, rfl, rfl, SqL.of g1, rfl, ab.2, us7, rfl, .inl ⟨SqL.of g2, fun t1 nt1 => ⟨by show 2 ≤ sizeLine; decide, fun t2 nt2 => ?_⟩⟩⟩
          have T1 := same_new (o := .tup us7) nt1
          have ht1 : upd H7 t1 (.tup us7) t1 = some (.tup us7) := upd_same
          generalize upd H7 t1 (.tup us7) = H8 at T1 ht1 nt2
          have T2 := same_new (o := .tup [.str top.k, .ref t1]) nt2
          have ht2 : upd H8 t2 (.tup [.str top.k, .ref t1]) t2 = some (.tup [.str top.k, .ref t1]) := upd_same
          generalize upd H8 t2 (.tup [.str top.k, .ref t1]) = H9 at T2 ht2
          have T12 := T1.trans T2
          have ef : full top = .tup [.str top.k, .tup top.ps] := by
            unfold Shp.full
            rw [show lackT top = 0 by unfold lackT; omega, List.replicate_zero, List.append_nil]
          have hv : At H9 (.ref t2) (full top) := by
            rw [ef]
            exact .tup ht2 (.cons (.str _) (.cons (.tup (T2 _ _ ht1) (gA.same T12)) .nil))
          refine ⟨ab'.2, _, _, rfl, rfl, T12 _ _ k2, Nat.lt_of_le_of_lt (show ws.length ≤ 1000 by omega) (by decide), ?_⟩
          have em : many (p' ++ [e] ++ [top]) = many (p' ++ [⟨e.k, e.ps ++ [full top], e.ms ++ [fullN top]⟩]) := by
            rw [many_top, many_top, many_top, List.sum_append, List.sum_singleton]
            unfold Shp.fullN
            rw [show lackT top = 0 by unfold lackT; omega]
            omega
          exact ⟨abs', ab', p', ⟨e.k, e.ps ++ [full top], e.ms ++ [fullN top]⟩, some (.int c), _, some (.ref ab.1), congrArg (fun z => [some (V.ref a), some (V.str kind), some (V.int most), some (V.ref lp), some (nV z), some (V.int c), some (V.int (((most : Nat) : Int) - ((many (p' ++ [e] ++ [top]) : Nat) : Int) - ((lackT top + lackB (p' ++ [e]) : Nat) : Int))), some (V.ref ab.1)]) em, (pl7.alloc T12).add (T12 _ _ k2) (kA.same T12) hv _, okc, by rw [List.length_append] at lp1; omega⟩
        · refine tst_if (p := (0 : Int) < (((most : Nat) : Int) - ((many (p ++ [top]) : Nat) : Int) - ((lackT top + lackB p : Nat) : Int)) ∨ ((us.length : Nat) : Int) < 2) (tst_orL (tst_of (evl_I0 (evl_var rfl) evl_c)) fun _ => tst_of (evl_I0 (evL rfl) evl_c)) (fun cc => ?_) (fun _ => ?_)
          · refine ⟨_, rfl, 1, rfl, lp, _, _, _, rfl, rfl, SqL.of pl6.lst, pl6.last, ab.1, _, _, _, rfl, rfl, SqL.of h1, rfl, .inl ⟨rfl, _, SqL.of h2⟩, ab.2, _, _, rfl, rfl, h2, Nat.lt_of_le_of_lt (show us.length ≤ 1000 by omega) (by decide), ?_⟩
            refine ⟨_, rfl, _, _, rfl, rfl, ?_⟩
            have em : ((many (p ++ [top]) : Nat) : Int) + 1 = ((many (p ++ [⟨top.k, top.ps ++ [.non], top.ms ++ [1]⟩]) : Nat) : Int) := by
              rw [many_top, many_top, List.sum_append, List.sum_singleton]
              omega
            exact ⟨abs, ab, p, ⟨top.k, top.ps ++ [.non], top.ms ++ [1]⟩, some (.int c), _, o7, congrArg (fun z => [some (V.ref a), some (V.str kind), some (V.int most), some (V.ref lp), some (V.int z), some (V.int c), some (V.int (((most : Nat) : Int) - ((many (p ++ [top]) : Nat) : Int) - ((lackT top + lackB p : Nat) : Int))), o7]) em, pl6.add h2 hA .non _, ok.leaf (by
              rw [lA] at cc
              rcases cc with z | z
              · exact .inl (by omega)
              · exact .inr (by omega)), by omega⟩
          · refine run_next ?_
            exact ⟨abs, ab, p, top, _, _, _, rfl, pl6, ok, by omega⟩
    · rintro σ H5 ⟨abs, ab, p, top, o5, o6, o7, rfl, pl, ok, lp1⟩
      generalize many (p ++ [top]) = MN
      try dsimp only
      refine run_seq ?_
      refine ⟨fun m σ H6 => ∃ (abs : List (Addr × Addr)) (ab : Addr × Addr) (p : List Shp.E) (top : Shp.E) (o7 : Option V), m = p.length ∧ σ = [some (.ref a), some (.str kind), some (.int most), some (.ref lp), some (nV MN), o5, o6, o7] ∧ PlAt H H6 lp abs ab p top ∧ Pok kind most p top, ⟨_, abs, ab, p, top, o7, rfl, rfl, pl, ok⟩, ?_⟩
      clear pl ok lp1
      rintro m σ H6 ⟨abs, ab, p, top, o7, rfl, rfl, pl6, ok⟩
      have lE := pl6.ens.len
      have hsm := Pok.small ok
      refine ⟨_, rfl, lp, _, rfl, .inl (SqL.of pl6.lst), _, _, rfl, rfl, _, rfl, ?_⟩
      rw [List.length_map, List.length_append]
      by_cases c1 : 1 ≤ p.length
      · rw [decide_eq_true (show (1 : Int) < ((abs.length + [ab].length : Nat) : Int) by have : [ab].length = 1 := rfl; omega)]
        refine iteT ⟨_, fun _ _ y => y, ?_⟩
        obtain ⟨p', e, rfl⟩ := two_ends c1
        obtain ⟨abs', ab', rfl, pl7, en7⟩ := pl6.pop
        refine ⟨_, rfl, .inl ⟨rfl, _, SqL.of pl6.lst⟩, lp, _, .ref ab.1, rfl, rfl, pl6.lst, (by simp [rf]), ?_⟩
        generalize upd H6 lp (.lst ((abs' ++ [ab'] ++ [ab]).map rf).dropLast) = H7 at pl7 en7
        refine run_gname ?_
        try dsimp only
        obtain ⟨g1, us7, g2, gA⟩ := en7
        have l7 := gA.len
        obtain ⟨k1, ws, k2, kA⟩ := pl7.en
        have lk := kA.len
        have okc := ok.close
        have smc := Pok.small okc
        rw [List.length_append] at smc
        refine ⟨_, rfl, 1, rfl, lp, _, _, _, rfl, rfl, SqL.of pl7.lst, pl7.last, ab'.1, _, _, _, rfl, rfl, SqL.of k1, rfl, .inl ⟨rfl, _, SqL.of k2⟩, _, rfl, ab.1, _, _, _, rfl, rfl, SqL.of g1, rfl, _, rfl, ab.1, _, _, _, rfl, rfl, SqL.of g1, rfl, by show 1 ≤ sizeLine; decide, fun l1 nl1 => ?_⟩
        have T1 := same_new (o := .lst [V.non]) nl1
        have hl1 : upd H7 l1 (.lst [V.non]) l1 = some (.lst [V.non]) := upd_same
        generalize upd H7 l1 (.lst [V.non]) = H8 at T1 hl1
        refine ⟨_, rfl, ab.1, _, _, _, rfl, rfl, SqL.of (T1 _ _ g1), rfl, ab.2, us7, rfl, .inl (SqL.of (T1 _ _ g2)), _, _, rfl, rfl, l1, _, _, rfl, rfl, hl1, by omega, by omega, by show 1 * ((2 : Int) - ((us7.length : Nat) : Int)).toNat ≤ sizeLine; exact Nat.le_trans (show _ ≤ 1000 by omega) (by decide), fun l2 nl2 => ?_⟩
        rw [rep_non, show ((2 : Int) - ((us7.length : Nat) : Int)).toNat = lackT top by unfold lackT; omega]
        have T2 := same_new (o := .lst (List.replicate (lackT top) V.non)) nl2
        have hl2 : upd H8 l2 (.lst (List.replicate (lackT top) V.non)) l2 = some (.lst (List.replicate (lackT top) V.non)) := upd_same
        have T12 := T1.trans T2
        generalize upd H8 l2 (.lst (List.replicate (lackT top) V.non)) = H9 at T2 hl2 T12
        refine ⟨ab.2, l2, us7, _, rfl, rfl, T12 _ _ g2, hl2, by rw [List.length_replicate]; unfold lackT; exact Nat.le_trans (show _ ≤ 1000 by omega) (by decide), fun l3 nl3 => ?_⟩
        have T3 := same_new (o := .lst (us7 ++ List.replicate (lackT top) V.non)) nl3
        have hl3 : upd H9 l3 (.lst (us7 ++ List.replicate (lackT top) V.non)) l3 = some (.lst (us7 ++ List.replicate (lackT top) V.non)) := upd_same
        have T13 := T12.trans T3
        generalize upd H9 l3 (.lst (us7 ++ List.replicate (lackT top) V.non)) = H10 at T3 hl3 T13
        refine ⟨l3, _, rfl, .inl ⟨SqL.of hl3, fun t1 nt1 => ⟨by show 2 ≤ sizeLine; decide, fun t2 nt2 => ?_⟩⟩⟩
        have T4 := same_new (o := .tup (us7 ++ List.replicate (lackT top) V.non)) nt1
        have ht1 : upd H10 t1 (.tup (us7 ++ List.replicate (lackT top) V.non)) t1 = some (.tup (us7 ++ List.replicate (lackT top) V.non)) := upd_same
        have T14 := T13.trans T4
        generalize upd H10 t1 (.tup (us7 ++ List.replicate (lackT top) V.non)) = H11 at T4 ht1 T14 nt2
        have T5 := same_new (o := .tup [.str top.k, .ref t1]) nt2
        have ht2 : upd H11 t2 (.tup [.str top.k, .ref t1]) t2 = some (.tup [.str top.k, .ref t1]) := upd_same
        have TT := T14.trans T5
        generalize upd H11 t2 (.tup [.str top.k, .ref t1]) = H12 at T5 ht2 TT
        have hv : At H12 (.ref t2) (full top) := .tup ht2 (.cons (.str _) (.cons (.tup (T5 _ _ ht1) ((gA.same TT).app (AtL.nons _))) .nil))
        refine ⟨ab'.2, _, _, rfl, rfl, TT _ _ k2, Nat.lt_of_le_of_lt (show ws.length ≤ 1000 by omega) (by decide), ?_⟩
        exact ⟨_, by rw [List.length_append]; exact Nat.lt_succ_self _, abs', ab', p', ⟨e.k, e.ps ++ [full top], e.ms ++ [fullN top]⟩, some (.ref ab.1), rfl, rfl, (pl7.alloc TT).add (TT _ _ k2) (kA.same TT) hv _, okc⟩
      · rw [decide_eq_false (show ¬ (1 : Int) < ((abs.length + [ab].length : Nat) : Int) by have : [ab].length = 1 := rfl; omega)]
        refine iteF ?_
        have ep : p = [] := List.length_eq_zero_iff.mp (by omega)
        have ea : abs = [] := List.length_eq_zero_iff.mp (by omega)
        subst ep ea
        obtain ⟨ek, sh, le⟩ := ok.done
        obtain ⟨g1, us7, g2, gA⟩ := pl6.en
        have l7 := gA.len
        refine ⟨_, rfl, _, rfl, lp, _, _, _, rfl, rfl, SqL.of pl6.lst, rfl, ab.1, _, _, _, rfl, rfl, SqL.of g1, rfl, by show 1 ≤ sizeLine; decide, fun l1 nl1 => ?_⟩
        have T1 := same_new (o := .lst [V.non]) nl1
        have hl1 : upd H6 l1 (.lst [V.non]) l1 = some (.lst [V.non]) := upd_same
        generalize upd H6 l1 (.lst [V.non]) = H8 at T1 hl1
        refine ⟨_, rfl, lp, _, _, _, rfl, rfl, SqL.of (T1 _ _ pl6.lst), rfl, ab.1, _, _, _, rfl, rfl, SqL.of (T1 _ _ g1), rfl, ab.2, us7, rfl, .inl (SqL.of (T1 _ _ g2)), _, _, rfl, rfl, l1, _, _, rfl, rfl, hl1, by omega, by omega, by show 1 * ((2 : Int) - ((us7.length : Nat) : Int)).toNat ≤ sizeLine; exact Nat.le_trans (show _ ≤ 1000 by omega) (by decide), fun l2 nl2 => ?_⟩
        rw [rep_non, show ((2 : Int) - ((us7.length : Nat) : Int)).toNat = lackT top by unfold lackT; omega]
        have T2 := same_new (o := .lst (List.replicate (lackT top) V.non)) nl2
        have hl2 : upd H8 l2 (.lst (List.replicate (lackT top) V.non)) l2 = some (.lst (List.replicate (lackT top) V.non)) := upd_same
        have T12 := T1.trans T2
        generalize upd H8 l2 (.lst (List.replicate (lackT top) V.non)) = H9 at T2 hl2 T12
        refine ⟨ab.2, l2, us7, _, rfl, rfl, T12 _ _ g2, hl2, by rw [List.length_replicate]; unfold lackT; exact Nat.le_trans (show _ ≤ 1000 by omega) (by decide), fun l3 nl3 => ?_⟩
        have T3 := same_new (o := .lst (us7 ++ List.replicate (lackT top) V.non)) nl3
        have hl3 : upd H9 l3 (.lst (us7 ++ List.replicate (lackT top) V.non)) l3 = some (.lst (us7 ++ List.replicate (lackT top) V.non)) := upd_same
        have T13 := T12.trans T3
        generalize upd H9 l3 (.lst (us7 ++ List.replicate (lackT top) V.non)) = H10 at T3 hl3 T13
        refine ⟨l3, _, rfl, .inl ⟨SqL.of hl3, fun t1 nt1 => ⟨by show 2 ≤ sizeLine; decide, fun t2 nt2 => ?_⟩⟩⟩
        have T4 := same_new (o := .tup (us7 ++ List.replicate (lackT top) V.non)) nt1
        have ht1 : upd H10 t1 (.tup (us7 ++ List.replicate (lackT top) V.non)) t1 = some (.tup (us7 ++ List.replicate (lackT top) V.non)) := upd_same
        have T14 := T13.trans T4
        generalize upd H10 t1 (.tup (us7 ++ List.replicate (lackT top) V.non)) = H11 at T4 ht1 T14 nt2
        have T5 := same_new (o := .tup [.str kind, .ref t1]) nt2
        have ht2 : upd H11 t2 (.tup [.str kind, .ref t1]) t2 = some (.tup [.str kind, .ref t1]) := upd_same
        have TT := T14.trans T5
        generalize upd H11 t2 (.tup [.str kind, .ref t1]) = H12 at T5 ht2 TT
        have hv : At H12 (.ref t2) (full top) := by
          rw [← ek] at ht2
          exact .tup ht2 (.cons (.str _) (.cons (.tup (T5 _ _ ht1) ((gA.same TT).app (AtL.nons _))) .nil))
        exact q (.ref t2) (full top) (fullN top) _ (pl6.same.trans TT) hv sh le
end
end JH
set_option Elab.async false
set_option linter.all false
set_option maxRecDepth 100000
set_option maxHeartbeats 1000000
namespace JH
open PySem L2 Lin Tre PySem.W
open Shp (Sh ShL Cn CnL)
abbrev sCnt69 : Stmt := top 75
abbrev sNmb69 : Stmt := top 76
theorem nV_ints (g : List Nat) : (g.map fun n : Nat => (n : Int)).map V.int = g.map nV := by rw [List.map_map]; rfl
theorem sum_nat : ∀ g : List Nat, (g.map fun n : Nat => (n : Int)).sum = ((g.sum : Nat) : Int)
  | [] => rfl
  | a :: r => by rw [List.map_cons, List.sum_cons, sum_nat r, List.sum_cons]; omega
def SameX (d : Addr) (H H' : Hp) : Prop := ∀ p o, p ≠ d → H p = some o → H' p = some o
theorem SameX.refl (d : Addr) (H : Hp) : SameX d H H := fun _ _ _ e => e
theorem SameX.of {d : Addr} {H H' : Hp} (S : Same H H') : SameX d H H' := fun p o _ e => S p o e
theorem SameX.trans {d : Addr} {H H' H2 : Hp} (a : SameX d H H') (b : SameX d H' H2) : SameX d H H2 := fun p o n e => b p o n (a p o n e)
theorem sameX_upd {d : Addr} {H : Hp} {o : HO} : SameX d H (upd H d o) := fun p u n e => by rw [upd_ne n]; exact e
theorem SameX.all {d : Addr} {H0 H H' : Hp} (n : H0 d = none) (S : Same H0 H) (x : SameX d H H') : Same H0 H' := fun p o e => x p o (ne_of_none e n) (S p o e)
section
variable {d : Addr} {H H' : Hp} {us us' : List V}
mutual
theorem At.x (hd : H d = some (.lst us)) (hd' : H' d = some (.lst us')) (S : SameX d H H') : ∀ {v : V} {t : T}, At H v t → At H' v t
  | _, _, .non => .non
  | _, _, .bl b => .bl b
  | _, _, .int i => .int i
  | _, _, .str x => .str x
  | _, _, .tup e h => .tup (S _ _ (ne_of e hd (by intro z; cases z)) e) (AtL.x hd hd' S h)
  | _, _, .lst (a := a) e => by
    by_cases z : a = d
    · rw [z]; exact .lst hd'
    · exact .lst (S _ _ z e)
  | _, _, .dic e => .dic (S _ _ (ne_of e hd (by intro z; cases z)) e)
theorem AtL.x (hd : H d = some (.lst us)) (hd' : H' d = some (.lst us')) (S : SameX d H H') : ∀ {vs : List V} {ts : List T}, AtL H vs ts → AtL H' vs ts
  | _, _, .nil => .nil
  | _, _, .cons h r => .cons (At.x hd hd' S h) (AtL.x hd hd' S r)
end
end
def spCount (d : Nat) : Sp := fun vs H Q _ => ∃ (x : V) (t : T) (m : Nat), vs = [x] ∧ At H x t ∧ Cn t m ∧ sz t + 3 ≤ 4 * d ∧ d ≤ 24 ∧ ∀ H', Same H H' → Q (nV m) H'
def spNmb (d : Nat) : Sp := fun vs H Q _ => ∃ (x : V) (t : T) (m : Nat) (l : Addr) (ns : List Int), vs = [x, .ref l] ∧ At H x t ∧ Sh t m ∧ H l = some (.lst (ns.map V.int)) ∧ m ≤ ns.length ∧ ns.length ≤ 1000 ∧ sz t + 3 ≤ 4 * d ∧ d ≤ 24 ∧
  ∀ (v : V) (t' : T) (H' : Hp), SameX l H H' → H' l = some (.lst ((ns.drop m).map V.int)) → At H' v t' → Good t' (ns.take m) → (∀ k, HasK t' k → HasK t k) → Q v H'
section
variable {P : Program} {w : World} {K : PySem.W.Frag} {mg : Str → Option Value} {base : Heap} {kA : Addr}
theorem scCount : FnScope ["shape"] ["shape"] (defScope sCnt69) := ⟨rfl, rfl, rfl, by decide +kernel, rfl, by decide +kernel, by decide +kernel⟩
theorem ok_count0 {f : Addr} {fd : FuncData} (F : Fun K "_law_count" "_law_count" sCnt69 f fd) : FnOk P w K mg base CX0 1 f fd ["shape"] (spCount 0) := by
  refine F.ok scCount (fun vs H Q E h => ?_) (fun cdv A outer s H vs Q E hr h => ?_)
  · obtain ⟨x, t, m, rfl, _⟩ := h
    rfl
  · obtain ⟨x, t, m, rfl, _, _, hz, _⟩ := h
    omega
theorem ok_count1 {f : Addr} {fd : FuncData} {d : Nat} (F : Fun K "_law_count" "_law_count" sCnt69 f fd) (Z : Nt K mg kA) (tsum : mg "sum" = none) (Co : Callee P w K mg base CX0 (d + 1) "_law_count" f fd ["shape"] (spCount d)) : FnOk P w K mg base CX0 (d + 2) f fd ["shape"] (spCount (d + 1)) := by
  obtain ⟨gKIND, gPARTS, gMOST_BOXES, gKINDS, kk, ti, tint, tbool, tstr, ttup, tlist, tl, tany, ts, tr, kI, kB, kS, kT⟩ := Z
  refine F.ok scCount (fun vs H Q E h => ?_) (fun cdv A outer s H vs Q E hr h => ?_)
  · obtain ⟨x, t, m, rfl, _⟩ := h
    rfl
  · obtain ⟨x, t, m, rfl, hA, hC, hz, hd, q⟩ := h
    refine ⟨_, (pss_cons (ps_if (PW.pt (pw_or (pt_cmpR op_isN (pv 0) pe_non rfl) (pw_or1 (pt_val (pe_callB call_isi (by rfl) ti PyProof.Rows.boot_isinstance (pa_cons (pv 0) (pa_cons (pe_tyn rfl tint PyProof.Rows.boot_int) pa_nil)))))))
      (pss_one (ps_ret pe_int))
      pss_nil)
      (pss_one (ps_ret (pe_callB (call_sumG rfl) (by rfl) tsum PyProof.Rows.boot_sum (pa_cons (pe_comp (Nc := ["part"]) (ix := [none]) rfl rfl (by exact (pi_tup (pe_ix ix_tup (pv 0) pe_int (fun _ _ => rfl)))) (fun _ _ _ _ _ => (pg_name (i := 0) (by show (["part"] : List Str).Nodup; decide +kernel) rfl (Or.inl rfl))) (fun _ _ _ _ _ => pts_nil) (fun _ _ _ _ _ => (pe_call Co.ok hr rfl Co.bound Co.kp Co.bd .nil pass0 (pa_cons (pv 0) pa_nil)))) pa_nil))))), ?_⟩
    cases hC with
    | non =>
      cases hA
      exact ⟨_, rfl, rfl, _, rfl, iteT (iteT (q H (Same.refl _)))⟩
    | int i =>
      cases hA
      exact ⟨_, rfl, rfl, _, rfl, iteF ⟨_, rfl, _, _, _, _, rfl, rfl, (At.int (H := H) i).ty, kI (.int i), _, rfl, iteT (q H (Same.refl _))⟩⟩
    | @node k ps ms h2 hL2 =>
      have hty := hA.ty (K := K)
      cases hA with
      | @tup a0 vs0 ss e hL =>
      obtain ⟨b0, ws, rfl, e2, hQ⟩ := hL.knot
      have lq := hQ.len
      have lM := hL2.len
      have nsz := sz_node k ps
      have lps := szL_len ps
      refine ⟨_, rfl, rfl, _, rfl, iteF ⟨_, rfl, _, _, _, _, rfl, rfl, hty, kI _, _, rfl, iteF ?_⟩⟩
      refine run_next ?_
      dsimp only
      refine ⟨_, rfl, _, _, _, _, rfl, rfl, SqT.of e, rfl, b0, rfl, ⟨_, SqT.of e2⟩, cmp_tup (K := K) (a := b0) (xs := ws) (fun i ys σ H' => ys = (ms.take i).map nV ∧ Same H H' ∧ ∃ o, σ = [o]) ⟨rfl, Same.refl _, none, rfl⟩
        (fun i ys σ H' hi ⟨e3, S3, _⟩ => ⟨by rw [e3, List.length_map, List.length_take]; exact Nat.le_trans (show _ ≤ 1000000 by omega) (by decide), SqT.of (S3 _ _ e2)⟩) ?_ ?_⟩
      case refine_2 =>
        rintro i y ys σ H1 hy ⟨rfl, S1, o, rfl⟩
        obtain ⟨pt, ep, hAp⟩ := hQ.get hy
        obtain ⟨mi, em, hCi⟩ := hL2.get ep
        have two := two_of h2 (List.mem_of_getElem? ep)
        dsimp only [gName, tYes]
        refine iteT ⟨_, rfl, y, pt, mi, rfl, hAp.same S1, hCi, by omega, by omega, fun H2 S2 => ⟨?_, S1.trans S2, _, rfl⟩⟩
        rw [List.take_add_one, em, List.map_append]
        rfl
      rintro ys σ H1 ⟨rfl, S1, _⟩ la nl
      rw [lq, ← lM, List.take_length]
      have hla : upd H1 la (.lst (ms.map nV)) la = some (.lst ((ms.map fun n : Nat => (n : Int)).map V.int)) := by rw [upd_same, nV_ints]
      have S2 := S1.trans (same_new (o := .lst (ms.map nV)) nl)
      generalize upd H1 la (.lst (ms.map nV)) = H2 at hla S2
      refine ⟨la, _, rfl, SqL.of hla, ?_⟩
      rw [sum_nat]
      exact q H2 S2
theorem ok_count {f : Addr} {fd : FuncData} (F : Fun K "_law_count" "_law_count" sCnt69 f fd) (Z : Nt K mg kA) (tsum : mg "sum" = none) (bo : mg "_law_count" = some (.ref f)) (kp : PySem.W.keepIn K (.ref f) = true) (bd : Binds K fd ["shape"] []) : ∀ d, FnOk P w K mg base CX0 (d + 1) f fd ["shape"] (spCount d)
  | 0 => ok_count0 F
  | d + 1 => ok_count1 F Z tsum ⟨ok_count F Z tsum bo kp bd d, bo, kp, bd⟩
theorem scNmb : FnScope ["shape", "left"] ["shape", "left"] (defScope sNmb69) := ⟨rfl, rfl, rfl, by decide +kernel, rfl, by decide +kernel, by decide +kernel⟩
theorem ok_nmb0 {f : Addr} {fd : FuncData} (F : Fun K "_law_numbered" "_law_numbered" sNmb69 f fd) : FnOk P w K mg base CX0 1 f fd ["shape", "left"] (spNmb 0) := by
  refine F.ok scNmb (fun vs H Q E h => ?_) (fun cdv A outer s H vs Q E hr h => ?_)
  · obtain ⟨x, t, m, l, ns, rfl, _⟩ := h
    rfl
  · obtain ⟨x, t, m, l, ns, rfl, _, _, _, _, _, hz, _⟩ := h
    omega
theorem ok_nmb1 {f : Addr} {fd : FuncData} {d : Nat} (F : Fun K "_law_numbered" "_law_numbered" sNmb69 f fd) (ttup : mg "tuple" = none) (Nu : Callee P w K mg base CX0 (d + 1) "_law_numbered" f fd ["shape", "left"] (spNmb d)) : FnOk P w K mg base CX0 (d + 2) f fd ["shape", "left"] (spNmb (d + 1)) := by
  refine F.ok scNmb (fun vs H Q E h => ?_) (fun cdv A outer s H vs Q E hr h => ?_)
  · obtain ⟨x, t, m, l, ns, rfl, _⟩ := h
    rfl
  · obtain ⟨x, t, m, l, ns, rfl, hA, hS, hl, hm, hn, hz, hd, q⟩ := h
    refine ⟨_, (pss_cons (ps_if (pt_cmpR op_isN (pv 0) pe_non rfl)
      (pss_one (ps_ret (pe_bm PySem.F.plainAttrs_list PySem.F.slot_list_pop PySem.F.type_list_pop mt_popAt (pv 1) (pa_cons pe_int pa_nil))))
      pss_nil)
      (pss_one (ps_ret (pe_tup (pa_cons (pe_ix ix_tup (pv 0) pe_int (fun _ _ => rfl)) (pa_cons (pe_callTy call_tuple_of rfl ttup PyProof.Rows.boot_tuple (pa_cons (pe_comp (Nc := ["part", "left"]) (ix := [none, some 1]) rfl rfl (by exact (pi_tup (pe_ix ix_tup (pv 0) pe_int (fun _ _ => rfl)))) (fun _ _ _ _ _ => (pg_name (i := 0) (by show (["part", "left"] : List Str).Nodup; decide +kernel) rfl (Or.inl rfl))) (fun _ _ _ _ _ => pts_nil) (fun _ _ _ _ _ => (pe_call Nu.ok hr rfl Nu.bound Nu.kp Nu.bd .nil pass0 (pa_cons (pv 0) (pa_cons (pv 1) pa_nil))))) pa_nil)) pa_nil)))))), ?_⟩
    cases hS with
    | leaf =>
      cases hA
      obtain ⟨i, r, rfl⟩ : ∃ i r, ns = i :: r := by
        cases ns with
        | nil => exact absurd hm (by decide)
        | cons i r => exact ⟨i, r, rfl⟩
      refine ⟨_, rfl, rfl, _, rfl, iteT ?_⟩
      refine ⟨_, rfl, .inl ⟨rfl, _, SqL.of hl⟩, l, _, 0, 0, .int i, rfl, rfl, hl, by decide, by decide, ?_, rfl, ?_⟩
      · exact PySem.StrLaws.seqIndex_nonneg (Int.le_refl _) (by rw [List.length_map, List.length_cons]; omega)
      · exact q (.int i) (.int i) _ sameX_upd (by rw [upd_same]; rfl) (.int i) (.leaf i) fun k ⟨_, e⟩ => by cases e
    | @node k ps ms hk h2 hn2 hL2 =>
      cases hA with
      | @tup a0 vs0 ss e hL =>
      obtain ⟨b0, ws, rfl, e2, hQ⟩ := hL.knot
      have lq := hQ.len
      have lM := hL2.len
      have nsz := sz_node k ps
      have lps := szL_len ps
      have nb0 : b0 ≠ l := ne_of e2 hl (by intro z; cases z)
      have na0 : a0 ≠ l := ne_of e hl (by intro z; cases z)
      refine ⟨_, rfl, rfl, _, rfl, iteF ?_⟩
      refine run_next ?_
      dsimp only
      refine ⟨_, rfl, _, _, _, _, rfl, rfl, SqT.of e, rfl, _, rfl, _, _, _, _, rfl, rfl, SqT.of e, rfl, b0, rfl, ⟨_, SqT.of e2⟩, cmp_tup (K := K) (a := b0) (xs := ws) (fun i ys σ H' => (∃ o, σ = [o, some (.ref l)]) ∧ SameX l H H' ∧ H' l = some (.lst ((ns.drop (ms.take i).sum).map V.int)) ∧ ∃ (ts' : List T) (nss : List (List Int)), AtL H' ys ts' ∧ GoodL ts' nss ∧ nss.flatten = ns.take (ms.take i).sum ∧ ts'.length = i ∧ ∀ (j : Nat) (t' : T), ts'[j]? = some t' → ∃ t0 ∈ ps, ∀ k, HasK t' k → HasK t0 k)
          ⟨⟨none, rfl⟩, SameX.refl _ _, hl, [], [], .nil, .nil, rfl, rfl, fun j t' e => by simp at e⟩
        (fun i ys σ H' hi ⟨_, S3, _, ts', nss, hY, _, _, l3, _⟩ => ⟨by rw [hY.len, l3]; exact Nat.le_trans (show _ ≤ 1000000 by omega) (by decide), SqT.of (S3 _ _ nb0 e2)⟩) ?_ ?_⟩
      case refine_2 =>
        rintro i y ys σ H1 hy ⟨⟨o, rfl⟩, S1, hl1, ts', nss, hY, hG, hf, l3, hK⟩
        obtain ⟨pt, ep, hAp⟩ := hQ.get hy
        obtain ⟨mi, em, hSi⟩ := hL2.get ep
        have two := two_of h2 (List.mem_of_getElem? ep)
        have et := Shp.take_sum em
        have sle := Shp.sum_take_le ms (i + 1)
        dsimp only [gName, tYes]
        refine iteT ⟨_, rfl, _, rfl, y, pt, mi, l, ns.drop (ms.take i).sum, rfl, hAp.x hl hl1 S1, hSi, hl1, by rw [List.length_drop]; omega, by rw [List.length_drop]; omega, by omega, by omega, fun v t' H2 S2 hl2 hv gv kv => ⟨⟨_, rfl⟩, S1.trans S2, ?_, ts' ++ [t'], nss ++ [(ns.drop (ms.take i).sum).take mi], ?_, hG.app (.cons gv .nil), ?_, by rw [List.length_append, l3]; rfl, fun j u hu => ?_⟩⟩
        · rw [hl2, List.drop_drop, et]
        · exact (hY.x hl1 hl2 S2).app (.cons hv .nil)
        · rw [List.flatten_append, hf, List.flatten_singleton, et, List.take_add]
        · by_cases hj : j < ts'.length
          · rw [List.getElem?_append_left hj] at hu
            exact hK j u hu
          · rw [List.getElem?_append_right (by omega)] at hu
            have : j - ts'.length = 0 := by
              cases h9 : j - ts'.length with
              | zero => rfl
              | succ z => rw [h9] at hu; simp at hu
            rw [this] at hu
            injection hu with hu
            rw [← hu]
            exact ⟨pt, List.mem_of_getElem? ep, kv⟩
      rintro ys σ H1 ⟨_, S1, hl1, ts', nss, hY, hG, hf, l3, hK⟩ la nl
      rw [lq, ← lM, List.take_length] at hl1 hf
      have T1 := same_new (o := .lst ys) nl
      have hla : upd H1 la (.lst ys) la = some (.lst ys) := upd_same
      generalize upd H1 la (.lst ys) = H2 at T1 hla
      refine ⟨la, ys, rfl, .inl ⟨SqL.of hla, fun t1 nt1 => ⟨by show 2 ≤ sizeLine; decide, fun t2 nt2 => ?_⟩⟩⟩
      have T2 := same_new (o := .tup ys) nt1
      have ht1 : upd H2 t1 (.tup ys) t1 = some (.tup ys) := upd_same
      have T12 := T1.trans T2
      generalize upd H2 t1 (.tup ys) = H3 at T2 ht1 T12 nt2
      have T3 := same_new (o := .tup [.str k, .ref t1]) nt2
      have ht2 : upd H3 t2 (.tup [.str k, .ref t1]) t2 = some (.tup [.str k, .ref t1]) := upd_same
      have T13 := T12.trans T3
      generalize upd H3 t2 (.tup [.str k, .ref t1]) = H4 at T3 ht2 T13
      refine q (.ref t2) (.tup [.str k, .tup ts']) H4 (S1.trans (.of T13)) (T13 _ _ hl1) (.tup ht2 (.cons (.str _) (.cons (.tup (T3 _ _ ht1) (hY.same T13)) .nil))) ?_ (fun k2 ⟨z, e9⟩ => ?_)
      · rw [← hf]
        refine .node hk (by omega) (fun t' ht' hk' => ?_) hG
        obtain ⟨j, hj, ej⟩ := List.mem_iff_getElem.mp ht'
        obtain ⟨t0, h0, hk0⟩ := hK j t' (by rw [List.getElem?_eq_getElem hj, ej])
        exact hn2 t0 h0 (hk0 k hk')
      · injection e9 with e9
        injection e9 with e9 _
        injection e9 with e9
        rw [e9]
        exact ⟨_, rfl⟩
theorem ok_nmb {f : Addr} {fd : FuncData} (F : Fun K "_law_numbered" "_law_numbered" sNmb69 f fd) (ttup : mg "tuple" = none) (bo : mg "_law_numbered" = some (.ref f)) (kp : PySem.W.keepIn K (.ref f) = true) (bd : Binds K fd ["shape", "left"] []) : ∀ d, FnOk P w K mg base CX0 (d + 1) f fd ["shape", "left"] (spNmb d)
  | 0 => ok_nmb0 F
  | d + 1 => ok_nmb1 F ttup ⟨ok_nmb F ttup bo kp bd d, bo, kp, bd⟩
end
end JH
set_option Elab.async false
set_option linter.all false
set_option maxRecDepth 100000
set_option maxHeartbeats 1000000
namespace JH
open PySem L2 Lin Tre PySem.W
open Shp (Sh ShL Cn CnL)
def spStir : Sp := fun vs H Q _ => ∃ c k : Int, vs = [.int c, .int k] ∧ -1000 ≤ k ∧ k ≤ 1000 ∧ ∀ n : Int, Q (.int n) H
def spCell (K : PySem.W.Frag) : Sp := fun vs H Q _ => ∃ (a : Addr) (ns : List Int) (k : Int), vs = [.ref a, .int k] ∧ SqL K H a (ns.map V.int) ∧ 0 ≤ k ∧ k ≤ 1000 ∧ ∀ n : Int, Q (.int n) H
section
variable {P : Program} {w : World} {K : PySem.W.Frag} {mg : Str → Option Value} {base : Heap}
theorem scStir : FnScope ["cell", "k", "number"] ["cell", "k"] (defScope sStir) := ⟨rfl, rfl, rfl, by decide +kernel, rfl, by decide +kernel, by decide +kernel⟩
theorem ok_stir {f : Addr} {fd : FuncData} (F : Fun K "_law_stir" "_law_stir" sStir f fd) : FnOk P w K mg base CX0 1 f fd ["cell", "k"] spStir := by
  refine F.ok scStir (fun vs H Q E h => ?_) (fun cdv A outer s H vs Q E hr h => ?_)
  · obtain ⟨c, k, rfl, _⟩ := h
    rfl
  · obtain ⟨c, k, rfl, k1, k2, q⟩ := h
    refine ⟨_, pss_cons (ps_set (i := 2) scStir.nd rfl (Or.inl rfl) (pe_op op_mod (pe_op op_mul (pe_op op_add (pe_op op_add (pe_op op_mod (pv 0) pe_int) (pe_op op_mul pe_int (pv 1))) pe_int) pe_int) pe_int))
      (pss_cons (ps_set (i := 2) scStir.nd rfl (Or.inl rfl) (pe_op op_mod (pe_op op_mul (pv 2) (pv 2)) pe_int))
      (pss_one (ps_ret (pe_op op_mod (pe_op op_mul (pv 2) pe_int) pe_int)))), ?_⟩
    have m1 := Int.emod_nonneg c (show (2147483629 : Int) ≠ 0 by decide)
    have m2 := Int.emod_lt_of_pos c (show (0 : Int) < 2147483629 by decide)
    refine ⟨_, rfl, _, _, rfl, rfl, (by show (0 : Int) < 2147483629; decide), _, rfl, _, _, rfl, rfl, .inl ⟨by decide, by decide⟩, _, _, rfl, rfl, _, _, rfl, rfl, _, _, rfl, rfl, .inl ⟨by omega, by omega⟩, _, _, rfl, rfl, (by show (0 : Int) < 2147483647; decide), ?_⟩
    generalize hA : (c % 2147483629 + 7919 * k + 1) * 48271 = a
    have a1 := Int.emod_nonneg a (show (2147483647 : Int) ≠ 0 by decide)
    have a2 := Int.emod_lt_of_pos a (show (0 : Int) < 2147483647 by decide)
    refine ⟨_, rfl, _, rfl, _, _, rfl, rfl, .inl ⟨by omega, by omega⟩, _, _, rfl, rfl, (by show (0 : Int) < 2147483629; decide), ?_⟩
    generalize a % 2147483647 * (a % 2147483647) = b
    have b1 := Int.emod_nonneg b (show (2147483629 : Int) ≠ 0 by decide)
    have b2 := Int.emod_lt_of_pos b (show (0 : Int) < 2147483629 by decide)
    exact ⟨_, rfl, _, _, rfl, rfl, .inl ⟨by omega, by omega⟩, _, _, rfl, rfl, (by show (0 : Int) < 2147483563; decide), q _⟩
theorem scCell : FnScope ["script", "k"] ["script", "k"] (defScope sCell) := ⟨rfl, rfl, rfl, by decide +kernel, rfl, by decide +kernel, by decide +kernel⟩
theorem ok_cell {f fS : Addr} {fd fdS : FuncData} (F : Fun K "_law_cell" "_law_cell" sCell f fd) (tl : mg "len" = none) (S : Callee P w K mg base CX0 1 "_law_stir" fS fdS ["cell", "k"] spStir) : FnOk P w K mg base CX0 2 f fd ["script", "k"] (spCell K) := by
  refine F.ok scCell (fun vs H Q E h => ?_) (fun cdv A outer s H vs Q E hr h => ?_)
  · obtain ⟨a, ns, k, rfl, _⟩ := h
    rfl
  · obtain ⟨a, ns, k, rfl, hS, k1, k2, q⟩ := h
    refine ⟨_, pss_cons (ps_if (pt_cmpR op_lt (pv 1) (pe_callB call_len_seq (by rfl) tl PySem.boot_len (pa_cons (pv 0) pa_nil)) (nomark _)) (pss_one (ps_ret (pe_ix ix_list (pv 0) (pv 1) (fun _ _ => rfl)))) pss_nil)
      (pss_cons (ps_if (pt_cmpR op_eq (pe_callB call_len_seq (by rfl) tl PySem.boot_len (pa_cons (pv 0) pa_nil)) pe_int (nomark _))
        (pss_one (ps_ret (pe_call S.ok hr rfl S.bound S.kp S.bd .nil pass0 (pa_cons (pe_op op_mul (pv 1) (pv 1)) (pa_cons (pv 1) pa_nil))))) pss_nil)
      (pss_one (ps_ret (pe_call S.ok hr rfl S.bound S.kp S.bd .nil pass0 (pa_cons (pe_ix ix_list (pv 0) (pe_op op_mod (pv 1) (pe_callB call_len_seq (by rfl) tl PySem.boot_len (pa_cons (pv 0) pa_nil))) (fun _ _ => rfl)) (pa_cons (pv 1) pa_nil)))))), ?_⟩
    refine ⟨_, rfl, _, rfl, _, _, rfl, .inl hS, _, _, rfl, rfl, _, rfl, ?_⟩
    rw [List.length_map]
    refine ite2 (fun c1 => ?_) (fun c1 => ?_)
    · have c1 := of_decide_eq_true c1
      exact ⟨_, rfl, _, rfl, _, _, _, _, rfl, rfl, hS, at_map k1 c1, q _⟩
    · have c1 : ¬ k < (ns.length : Int) := fun z => c1 (decide_eq_true z)
      refine ⟨_, rfl, _, _, rfl, .inl hS, rfl, _, rfl, ?_⟩
      rw [List.length_map]
      refine ite2 (fun c2 => ?_) (fun c2 => ?_)
      · exact ⟨_, rfl, _, rfl, _, _, rfl, rfl, .inl ⟨by omega, by omega⟩, _, rfl, _, _, rfl, by omega, by omega, fun n => q n⟩
      · have c2 : ns.length ≠ 0 := fun z => c2 (decide_eq_true (by rw [z]; rfl))
        have hp : (0 : Int) < (ns.length : Int) := by omega
        have m1 := Int.emod_nonneg k (show (ns.length : Int) ≠ 0 by omega)
        have m2 := Int.emod_lt_of_pos k hp
        exact ⟨_, rfl, _, rfl, _, rfl, _, _, rfl, .inl hS, _, _, rfl, rfl, (by rw [List.length_map]; exact hp), _, _, _, _, rfl, rfl, hS, (by rw [List.length_map]; exact at_map m1 m2), _, rfl, _, _, rfl, by omega, by omega, fun n => q n⟩
end
def spTre (K : PySem.W.Frag) : Sp := fun vs H Q _ => ∃ (a : Addr) (ns : List Int) (first most : Nat), vs = [.ref a, .int first, .int most] ∧ SqL K H a (ns.map V.int) ∧ ns.length ≤ 63 ∧ first ≤ 100 ∧ 2 ≤ most ∧ most ≤ 24 ∧ ∀ (v : V) (t : T) (n : List Int) (H' : Hp), Same H H' → At H' v t → Good t n → n.Perm (up n.length) → n.length ≤ 24 → Q v H'
section
variable {P : Program} {w : World} {K : PySem.W.Frag} {mg : Str → Option Value} {base : Heap} {kA : Addr}
theorem scLtree : FnScope ["script", "first", "most", "shape", "left", "order", "k"] ["script", "first", "most"] (defScope sLtree) := ⟨rfl, rfl, rfl, by decide +kernel, rfl, by decide +kernel, by decide +kernel⟩
theorem ok_tre {f fS fC fO fN : Addr} {fd dS dC dO dN : FuncData} (F : Fun K "_law_tree" "_law_tree" sLtree f fd) (tl : mg "len" = none) (tr : mg "range" = none) (tlist : mg "list" = none) (Sh : Callee P w K mg base CX0 2 "_law_shape" fS dS ["cells", "kind", "most"] spShape) (Ce : Callee P w K mg base CX0 2 "_law_cell" fC dC ["script", "k"] (spCell K))
    (Co : Callee P w K mg base CX0 25 "_law_count" fO dO ["shape"] (spCount 24)) (Nu : Callee P w K mg base CX0 25 "_law_numbered" fN dN ["shape", "left"] (spNmb 24)) : FnOk P w K mg base CX0 26 f fd ["script", "first", "most"] (spTre K) := by
  refine F.ok scLtree (fun vs H Q E h => ?_) (fun cdv A outer s H vs Q E hr h => ?_)
  · obtain ⟨a, ns, first, most, rfl, _⟩ := h
    rfl
  · obtain ⟨a, ns, first, most, rfl, hS, h63, hf, m2, m24, q⟩ := h
    refine ⟨_, (pss_cons (ps_set (i := 3) scLtree.nd rfl (Or.inl rfl) (pe_call Sh.ok (hr.mono (show 2 ≤ 25 by decide)) rfl Sh.bound Sh.kp Sh.bd .nil pass0 (pa_cons (pe_slice sl_list (pv 0) (po_some (pv 1)) (po_some pe_int)) (pa_cons (pe_ix ix_sign pe_str (pe_op op_mod (pe_call Ce.ok (hr.mono (show 2 ≤ 25 by decide)) rfl Ce.bound Ce.kp Ce.bd .nil pass0 (pa_cons (pv 0) (pa_cons pe_int pa_nil))) pe_int) (fun _ _ => rfl)) (pa_cons (pv 2) pa_nil)))))
      (pss_cons (ps_set (i := 4) scLtree.nd rfl (Or.inl rfl) (pe_listRange rfl rfl tlist rfl tr (pa_cons (pe_call Co.ok (hr.mono (show 25 ≤ 25 by decide)) rfl Co.bound Co.kp Co.bd .nil pass0 (pa_cons (pv 3) pa_nil)) pa_nil)))
      (pss_cons (ps_set (i := 5) scLtree.nd rfl (Or.inl rfl) (pe_lst pa_nil))
      (pss_cons (ps_for PassesOwn.never rfl (pi_range1 rfl tr (pa_cons (pe_callB call_len_seq (by rfl) tl PySem.boot_len (pa_cons (pv 4) pa_nil)) pa_nil)) (pg_name (i := 6) scLtree.nd rfl (Or.inl rfl))
      (pss_one (ps_expr (pe_bm PySem.F.plainAttrs_list PySem.F.slot_list_append PySem.F.type_list_append mt_append (pv 5) (pa_cons (pe_bm PySem.F.plainAttrs_list PySem.F.slot_list_pop PySem.F.type_list_pop mt_popAt (pv 4) (pa_cons (pe_op op_mod (pe_op op_fdiv (pe_call Ce.ok (hr.mono (show 2 ≤ 25 by decide)) rfl Ce.bound Ce.kp Ce.bd .nil pass0 (pa_cons (pv 0) (pa_cons (pe_op op_add (pv 1) (pv 6)) pa_nil))) pe_int) (pe_callB call_len_seq (by rfl) tl PySem.boot_len (pa_cons (pv 4) pa_nil))) pa_nil)) pa_nil)))))
      (pss_one (ps_ret (pe_call Nu.ok (hr.mono (show 25 ≤ 25 by decide)) rfl Nu.bound Nu.kp Nu.bd .nil pass0 (pa_cons (pv 3) (pa_cons (pv 5) pa_nil))))))))), ?_⟩
    refine ⟨_, rfl, _, rfl, _, rfl, _, rfl, a, _, rfl, hS, fun lc nlc => ?_⟩
    have lcut := cutV_length (ns.map V.int) (some ((first : Nat) : Int)) (some 63)
    obtain ⟨cells, hcut⟩ := cut_ints ns (some ((first : Nat) : Int)) (some 63)
    dsimp only
    rw [hcut]
    rw [hcut, List.length_map, List.length_map] at lcut
    have S1 := same_new (o := .lst (cells.map V.int)) nlc
    have hlc : (upd H lc (.lst (cells.map V.int))) lc = some (.lst (cells.map V.int)) := upd_same
    generalize upd H lc (.lst (cells.map V.int)) = H1 at S1 hlc
    refine ⟨_, rfl, a, ns, 0, rfl, S1.seq hS, by decide, by decide, fun c0 => ?_⟩
    obtain ⟨ch, hch, hkk⟩ := stroke_at c0
    refine ⟨_, _, rfl, rfl, (show (0 : Int) < 2 by decide), [124, 45], _, ch, congrArg V.str strokes, rfl, by decide, hch, _, rfl, lc, cells, _, most, rfl, hlc, by omega, hkk, m2, m24, fun x t m H2 S2 hA hSh hm => ?_⟩
    refine run_gname ?_
    try dsimp only
    have S02 := S1.trans S2
    have szt := hSh.szN
    refine ⟨_, rfl, x, t, m, rfl, hA, hSh.cn, by omega, by decide, fun H3 S3 => ⟨m, rfl, by omega, fun ll nll => ?_⟩⟩
    have S03 := S02.trans S3
    have S4 := same_new (o := .lst ((List.range m).map fun i : Nat => V.int i)) nll
    have h1 : (upd H3 ll (.lst ((List.range m).map fun i : Nat => V.int i))) ll = some (.lst ((up m).map V.int)) := by
      rw [upd_same]
      unfold up
      rw [List.map_map]
      rfl
    have fll := S03.free nll
    have S34 := S3.trans S4
    have S04 := S03.trans S4
    generalize upd H3 ll (.lst ((List.range m).map fun i : Nat => V.int i)) = H4 at S4 h1 S34 S04
    refine run_gname ?_
    try dsimp only
    refine seq_lst ⟨by show 0 ≤ sizeLine; decide, fun li nli => ?_⟩
    have fli := S04.free nli
    have S5 := same_new (o := .lst []) nli
    have h2 : (upd H4 li (.lst [])) li = some (.lst []) := upd_same
    have nn : ll ≠ li := ne_of_none h1 nli
    have h1 := S5 _ _ h1
    have S05 := S04.trans S5
    have hA5 := (hA.same S34).same S5
    generalize upd H4 li (.lst []) = H5 at S5 h2 h1 S05 hA5
    refine run_seq (t := _) ?_
    refine ⟨_, rfl, ll, _, rfl, .inl (SqL.of h1), _, rfl, by rw [List.length_map, up_len]; omega, by rw [List.length_map, up_len]; omega, ?_⟩
    rw [show ((((up m).map V.int).length : Nat) : Int).toNat = m by rw [List.length_map, up_len]; rfl]
    refine for_range (lo := 0) (n := m) (fun i σ H6 => ∃ (us ls : List Int) (o : Option V), σ = [some (.ref a), some (.int first), some (.int most), some x, some (.ref ll), some (.ref li), o] ∧ Same H H6 ∧ At H6 x t ∧ H6 ll = some (.lst (ls.map V.int)) ∧ H6 li = some (.lst (us.map V.int)) ∧ (us ++ ls).Perm (up m) ∧ us.length = i)
      ⟨[], _, none, rfl, S05, hA5, h1, h2, .refl _, rfl⟩ ?_ ?_
    · rintro i σ H6 hi ⟨us, ls, o, rfl, S6, hA6, hll, hli, pm, lu⟩
      refine run_gname ?_
      rw [show (0 : Int) + (i : Int) = (i : Int) from Int.zero_add _]
      try dsimp only
      have ln := pm.length_eq
      rw [List.length_append, up_len] at ln
      have l0 : 0 < ls.length := by omega
      refine ⟨_, rfl, .inl ⟨rfl, _, SqL.of hli⟩, _, rfl, .inl ⟨rfl, _, SqL.of hll⟩, _, rfl, _, rfl, _, rfl, _, _, rfl, rfl, a, ns, _, rfl, S6.seq hS, by omega, by omega, fun c => ?_⟩
      have b0 := Int.emod_nonneg (c / 4) (show (ls.length : Int) ≠ 0 by omega)
      have b1 := Int.emod_lt_of_pos (c / 4) (show (0 : Int) < ls.length by omega)
      obtain ⟨k, hk⟩ := Int.eq_ofNat_of_zero_le b0
      have kl : k < ls.length := by omega
      refine ⟨_, _, rfl, rfl, (show CDiv c 4 from ⟨by decide, by decide⟩), _, rfl, _, _, rfl, .inl (SqL.of hll), _, _, rfl, rfl, by rw [List.length_map]; omega, ?_⟩
      have hk' : (c / 4) % (((ls.map V.int).length : Nat) : Int) = k := by rw [List.length_map]; exact hk
      refine ⟨ll, ls.map V.int, k, k, .int ls[k], rfl, congrArg (fun z => [V.int z]) hk', hll, by omega, by omega, ?_, by rw [List.getElem?_map, List.getElem?_eq_getElem kl]; rfl, ?_⟩
      · rw [List.length_map]
        have z := PySem.StrLaws.seqIndex_nonneg (i := (k : Int)) (n := ls.length) (by omega) (by omega)
        exact z
      · have S7 : Same H (upd H6 ll (.lst ((ls.map V.int).eraseIdx k))) := same_upd S6 fll
        have k1 : (upd H6 ll (.lst ((ls.map V.int).eraseIdx k))) ll = some (.lst ((ls.eraseIdx k).map V.int)) := by rw [upd_same, erase_map]
        have k2 : (upd H6 ll (.lst ((ls.map V.int).eraseIdx k))) li = some (.lst (us.map V.int)) := by rw [upd_ne nn.symm]; exact hli
        have k3 := hA6.updL (ys := (ls.map V.int).eraseIdx k) hll
        generalize upd H6 ll (.lst ((ls.map V.int).eraseIdx k)) = H7 at S7 k1 k2 k3
        refine ⟨li, _, _, rfl, rfl, k2, by rw [List.length_map]; exact Nat.lt_of_le_of_lt (show _ ≤ 24 by omega) (by decide), ?_⟩
        refine ⟨us ++ [ls[k]], ls.eraseIdx k, _, rfl, same_upd S7 fli, k3.updL k2, by rw [upd_ne nn]; exact k1, by rw [upd_same, List.map_append]; rfl, ?_, by rw [List.length_append, lu]; rfl⟩
        rw [List.append_assoc]
        exact ((erase_perm kl).append_left us).trans pm
    · rintro σ H6 ⟨us, ls, o, rfl, S6, hA6, hll, hli, pm, lu⟩
      have ln := pm.length_eq
      rw [List.length_append, up_len] at ln
      have el : ls = [] := List.eq_nil_of_length_eq_zero (by omega)
      rw [el, List.append_nil] at pm
      have tk : us.take m = us := by rw [← lu, List.take_length]
      refine ⟨_, rfl, _, rfl, x, t, m, li, us, rfl, hA6, hSh, hli, by omega, by omega, by omega, by decide, fun v t' H7 S7 hl7 hv gv _ => ?_⟩
      rw [tk] at gv
      exact q v t' us H7 (SameX.all fli S6 S7) hv gv (by rw [lu]; exact pm) (by omega)
end
end JH
set_option Elab.async false
set_option linter.all false
set_option maxRecDepth 100000
set_option maxHeartbeats 1000000
namespace JH
open PySem L2 Lin Tre PySem.W
def signs93 : List Nat := [33, 34, 35, 36, 38, 39, 40, 41, 42, 43, 44, 45, 46, 47, 48, 49, 50, 51, 52, 53, 54, 55, 56, 57, 58, 59, 60, 61, 62, 63, 64, 65, 66, 67, 68, 69, 70, 71, 72, 73, 74, 75, 76, 77, 78, 79, 80, 81, 82, 83, 84, 85, 86, 87, 88, 89, 90, 91, 92, 93, 94, 95, 96, 97, 98, 99, 100, 101, 102, 103, 104, 105, 106, 107, 108, 109, 110, 111, 112, 113, 114, 115, 116, 117, 118, 119, 120, 121, 122, 123, 124, 125, 126]
theorem signs93_len : signs93.length = 93 := rfl
theorem signs93_good : ∀ c ∈ signs93, good c := by
  intro c hc
  have : (signs93.all fun c => decide (33 ≤ c) && (decide (c ≤ 126) && decide (c ≠ 37))) = true := by decide +kernel
  have := List.all_eq_true.mp this c hc
  simp only [Bool.and_eq_true, decide_eq_true_eq] at this
  exact this
def spWd69 : Sp := fun vs H Q _ => ∃ cell : Int, vs = [.int cell] ∧ ∀ u : W, okW u → Q (.str (txt u)) H
def spTx69 (K : PySem.W.Frag) : Sp := fun vs H Q _ => ∃ (a : Addr) (ns : List Int) (N : Nat), vs = [.ref a, .int N] ∧ SqL K H a (ns.map V.int) ∧ N ≤ 24 ∧ ∀ (l : Addr) (us : List V) (wss : List (List W)) (H' : Hp), Same H H' → H l = none → H' l = some (.lst us) → Txs H' us wss → wss.length = N → (∀ v ∈ us, ∃ b, v = .ref b ∧ H b = none) → Q (.ref l) H'
section
variable {P : Program} {w : World} {K : PySem.W.Frag} {mg : Str → Option Value} {base : Heap} {kA : Addr}
theorem scWd69 : FnScope ["cell", "some", "word", "left", "k"] ["cell"] (defScope sLw) := ⟨rfl, rfl, rfl, by decide +kernel, rfl, by decide +kernel, by decide +kernel⟩
theorem ok_wd69 {f : Addr} {fd : FuncData} (F : Fun K "_law_word" "_law_word" sLw f fd) (tr : mg "range" = none) : FnOk P w K mg base CX0 1 f fd ["cell"] spWd69 := by
  refine F.ok scWd69 (fun vs H Q E h => ?_) (fun cdv A outer s H vs Q E hr h => ?_)
  · obtain ⟨cell, rfl, _⟩ := h
    rfl
  · obtain ⟨cell, rfl, q⟩ := h
    refine ⟨_, (pss_cons (ps_set (i := 1) scWd69.nd rfl (Or.inl rfl) pe_str)
      (pss_cons (ps_set (i := 2) scWd69.nd rfl (Or.inl rfl) pe_str)
      (pss_cons (ps_set (i := 3) scWd69.nd rfl (Or.inl rfl) (pe_op op_fdiv (pv 0) pe_int))
      (pss_cons (ps_for PassesOwn.never rfl (pi_range1 rfl tr (pa_cons (pe_op op_add pe_int (pe_op op_mod (pv 0) pe_int)) pa_nil)) (pg_name (i := 4) scWd69.nd rfl (Or.inl rfl))
      (pss_cons (ps_set (i := 2) scWd69.nd rfl (Or.inl rfl) (pe_op op_add_str (pv 2) (pe_ix ix_sign (pv 1) (pe_op op_mod (pv 3) pe_int) (fun _ _ => rfl))))
        (pss_one (ps_set (i := 3) scWd69.nd rfl (Or.inl rfl) (pe_op op_add (pe_op op_fdiv (pv 3) pe_int) (pe_op op_mul pe_int (pv 4)))))))
      (pss_one (ps_ret (pv 2))))))), ?_⟩
    have es : ("!\"#$&'()*+,-./0123456789:;<=>?\x40ABCDEFGHIJKLMNOPQRSTUVWXYZ[\\]^_\x60abcdefghijklmnopqrstuvwxyz{|}~" : Str) = txt signs93 := by decide +kernel
    have e0 : ("" : Str) = txt [] := by decide +kernel
    have k0 := Int.emod_nonneg cell (show (12 : Int) ≠ 0 by decide)
    have k1 := Int.emod_lt_of_pos cell (show (0 : Int) < 12 by decide)
    obtain ⟨N, hN⟩ : ∃ N : Nat, (1 : Int) + cell % 12 = N := ⟨(1 + cell % 12).toNat, by omega⟩
    refine ⟨_, rfl, _, _, rfl, rfl, ⟨by decide, by decide⟩, ?_⟩
    refine ⟨_, rfl, _, _, rfl, rfl, (by show (0 : Int) < 12; decide), _, _, rfl, rfl, _, rfl, by omega, by omega, ?_⟩
    rw [hN]
    refine for_range (lo := 0) (n := N) (fun i σ H5 => ∃ (l : W) (o : Option V) (n : Int), σ = [some (.int cell), some (.str (txt signs93)), some (.str (txt l)), some (.int n), o] ∧ H5 = H ∧ l.length = i ∧ ∀ c ∈ l, good c)
      ⟨[], none, _, by rw [← es, ← e0]; rfl, rfl, rfl, fun c hc => (List.not_mem_nil hc).elim⟩ ?_ ?_
    · rintro i σ H5 hi ⟨l, o, n, rfl, rfl, ll, lg⟩
      refine run_gname ?_
      have m0 := Int.emod_nonneg n (show (93 : Int) ≠ 0 by decide)
      have m1' := Int.emod_lt_of_pos n (show (0 : Int) < 93 by decide)
      have hn : (n % 93).toNat < signs93.length := by rw [signs93_len]; omega
      have en : atI signs93 (n % 93) = some signs93[(n % 93).toNat] := by
        have z : atI signs93 (((n % 93).toNat : Nat) : Int) = some signs93[(n % 93).toNat] := atI_nat (List.getElem?_eq_getElem hn)
        rwa [show (((n % 93).toNat : Nat) : Int) = n % 93 by omega] at z
      refine ⟨_, rfl, _, rfl, _, rfl, _, _, rfl, rfl, (by show (0 : Int) < 93; decide), signs93, _, signs93[(n % 93).toNat], rfl, rfl, by rw [signs93_len]; decide, en, ?_⟩
      refine ⟨_, _, rfl, rfl, ?_, ?_⟩
      · rw [txt_len, txt_len]
        exact Nat.le_trans (show l.length + 1 ≤ 100 by omega) (by decide)
      · rw [txt_app]
        refine ⟨_, rfl, _, _, rfl, rfl, ⟨by decide, by decide⟩, _, rfl, _, _, rfl, rfl, .inl ⟨by decide, by decide⟩, _, _, rfl, rfl, ?_⟩
        refine ⟨l ++ [signs93[(n % 93).toNat]], _, _, rfl, rfl, by rw [List.length_append, ll]; rfl, fun c hc => ?_⟩
        rcases List.mem_append.mp hc with z | z
        · exact lg c z
        · rw [List.mem_singleton.mp z]
          exact signs93_good _ (List.getElem_mem hn)
    · rintro σ H5 ⟨l, o, n, rfl, rfl, ll, lg⟩
      exact ⟨_, rfl, q l ⟨by omega, by omega, lg⟩⟩
theorem scTx69 : FnScope ["script", "many", "texts", "k", "size"] ["script", "many"] (defScope (top 79)) := ⟨rfl, rfl, rfl, by decide +kernel, rfl, by decide +kernel, by decide +kernel⟩
theorem ok_tx69 {f fC fS fL : Addr} {fd dC dS dL : FuncData} (F : Fun K "_law_texts" "_law_texts" (top 79) f fd) (tr : mg "range" = none) (tint : mg "int" = none) (Ce : Callee P w K mg base CX0 2 "_law_cell" fC dC ["script", "k"] (spCell K)) (St : Callee P w K mg base CX0 1 "_law_stir" fS dS ["cell", "k"] spStir) (Lw : Callee P w K mg base CX0 1 "_law_word" fL dL ["cell"] spWd69) :
    FnOk P w K mg base CX0 3 f fd ["script", "many"] (spTx69 K) := by
  refine F.ok scTx69 (fun vs H Q E h => ?_) (fun cdv A outer s H vs Q E hr h => ?_)
  · obtain ⟨a, ns, N, rfl, _⟩ := h
    rfl
  · obtain ⟨a, ns, N, rfl, hS, hN, q⟩ := h
    refine ⟨_, (pss_cons (ps_set (i := 2) scTx69.nd rfl (Or.inl rfl) (pe_lst pa_nil))
      (pss_cons (ps_for PassesOwn.never rfl (pi_range1 rfl tr (pa_cons (pv 1) pa_nil)) (pg_name (i := 3) scTx69.nd rfl (Or.inr rfl))
      (pss_cons (ps_set (i := 4) scTx69.nd rfl (Or.inl rfl) (pe_op op_mod (pe_call Ce.ok hr rfl Ce.bound Ce.kp Ce.bd .nil pass0 (pa_cons (pv 0) (pa_cons (pe_op op_add pe_int (pv 3)) pa_nil))) (pe_ix ix_list (pe_lst (pa_cons pe_int (pa_cons pe_int (pa_cons pe_int (pa_cons (pe_ix ix_list (pe_lst (pa_cons pe_int (pa_cons pe_int pa_nil))) (pe_callTy call_intB rfl tint PyProof.Rows.boot_int (pa_cons (pe_cmpR op_gt (pv 1) pe_int (nomark _)) pa_nil)) (fun _ _ => rfl)) pa_nil))))) (pe_op op_mod (pe_call Ce.ok hr rfl Ce.bound Ce.kp Ce.bd .nil pass0 (pa_cons (pv 0) (pa_cons pe_int pa_nil))) pe_int) (fun _ _ => rfl))))
        (pss_one (ps_expr (pe_bm PySem.F.plainAttrs_list PySem.F.slot_list_append PySem.F.type_list_append mt_append (pv 2) (pa_cons (pe_comp (Nc := ["j", "script", "k"]) (ix := [none, some 0, some 3]) rfl rfl (by exact (pi_range1 rfl tr (pa_cons (pv 4) pa_nil))) (fun _ _ _ _ _ => (pg_name (i := 0) (by show (["j", "script", "k"] : List Str).Nodup; decide +kernel) rfl (Or.inl rfl))) (fun _ _ _ _ _ => pts_nil) (fun _ _ _ _ _ => (pe_call Lw.ok (hr.mono (show 1 ≤ 2 by decide)) rfl Lw.bound Lw.kp Lw.bd .nil pass0 (pa_cons (pe_op op_add (pe_call St.ok (hr.mono (show 1 ≤ 2 by decide)) rfl St.bound St.kp St.bd .nil pass0 (pa_cons (pe_call Ce.ok hr rfl Ce.bound Ce.kp Ce.bd .nil pass0 (pa_cons (pv 1) (pa_cons (pe_op op_add pe_int (pv 2)) pa_nil))) (pa_cons (pv 0) pa_nil))) (pv 0)) pa_nil)))) pa_nil))))))
      (pss_one (ps_ret (pv 2))))), ?_⟩
    refine seq_lst ⟨by show 0 ≤ sizeLine; decide, fun lt nlt => ?_⟩
    have S1 := same_new (o := .lst []) nlt
    have h1 : (upd H lt (.lst [])) lt = some (.lst []) := upd_same
    generalize upd H lt (.lst []) = H1 at S1 h1
    refine run_seq ⟨_, rfl, _, rfl, by omega, by omega, ?_⟩
    refine for_range (lo := 0) (n := N) (fun i σ H2 => ∃ (us : List V) (wss : List (List W)) (o3 o4 : Option V), σ = [some (.ref a), some (.int N), some (.ref lt), o3, o4] ∧ Same H H2 ∧ H2 lt = some (.lst us) ∧ Txs H2 us wss ∧ wss.length = i ∧ (∀ v ∈ us, ∃ b, v = .ref b ∧ H b = none ∧ b ≠ lt))
      ⟨[], [], none, none, rfl, S1, h1, .nil, rfl, fun v hv => absurd hv List.not_mem_nil⟩ ?_ ?_
    · rintro i σ H2 hi ⟨us, wss, o3, o4, rfl, S2, hlt, hT, lw, nin⟩
      refine run_gname ?_
      rw [show (0 : Int) + (i : Int) = (i : Int) from Int.zero_add _]
      try dsimp only
      -- how many
      refine ⟨_, rfl, _, rfl, _, _, rfl, rfl, a, ns, _, rfl, S2.seq hS, by omega, by omega, fun c1 => ?_⟩
      refine ⟨by show 2 ≤ sizeLine; decide, fun pd npd => ?_⟩
      obtain ⟨m1, hm1, m1a, m1b⟩ : ∃ m1 : Int, atI [V.int 41, V.int 6] (if decide ((4 : Int) < ((N : Nat) : Int)) = true then 1 else 0) = some (.int m1) ∧ 1 ≤ m1 ∧ m1 ≤ 41 := by
        split
        · exact ⟨6, rfl, by decide, by decide⟩
        · exact ⟨41, rfl, by decide, by decide⟩
      refine ⟨_, rfl, _, _, rfl, rfl, _, rfl, pd, _, _, _, rfl, rfl, SqL.of upd_same, hm1, ?_⟩
      have S5 := same_new (o := .lst [V.int 41, V.int 6]) npd
      have S25 := S2.trans S5
      generalize upd H2 pd (.lst [V.int 41, V.int 6]) = H5 at S5 S25
      refine ⟨by show 4 ≤ sizeLine; decide, fun pe npe => ?_⟩
      have S6 := same_new (o := .lst [V.int 6, V.int 6, V.int 12, V.int m1]) npe
      have h6 : upd H5 pe (.lst [V.int 6, V.int 6, V.int 12, V.int m1]) pe = some (.lst [V.int 6, V.int 6, V.int 12, V.int m1]) := upd_same
      have S26 := S25.trans S6
      have S56 := S5.trans S6
      generalize upd H5 pe (.lst [V.int 6, V.int 6, V.int 12, V.int m1]) = H6 at S6 S26 S56 h6
      refine ⟨_, rfl, a, ns, 1, rfl, S26.seq hS, by decide, by decide, fun c2 => ?_⟩
      obtain ⟨mo, hmo, moa, mob⟩ : ∃ mo : Int, atI [V.int 6, V.int 6, V.int 12, V.int m1] (c2 % 4) = some (.int mo) ∧ 1 ≤ mo ∧ mo ≤ 41 := by
        rcases (show c2 % 4 = 0 ∨ c2 % 4 = 1 ∨ c2 % 4 = 2 ∨ c2 % 4 = 3 by omega) with e | e | e | e <;> rw [e]
        · exact ⟨6, rfl, by decide, by decide⟩
        · exact ⟨6, rfl, by decide, by decide⟩
        · exact ⟨12, rfl, by decide, by decide⟩
        · exact ⟨m1, rfl, m1a, m1b⟩
      refine ⟨_, _, rfl, rfl, (by show (0 : Int) < 4; decide), pe, _, _, _, rfl, rfl, SqL.of h6, hmo, _, _, rfl, rfl, (by show (0 : Int) < mo; omega), ?_⟩
      have e0 := Int.emod_nonneg c1 (show mo ≠ 0 by omega)
      have e1 := Int.emod_lt_of_pos c1 (show 0 < mo by omega)
      obtain ⟨M, hM⟩ : ∃ M : Nat, c1 % mo = (M : Int) := ⟨(c1 % mo).toNat, by omega⟩
      refine run_gname ?_
      try dsimp only
      have hlt6 := S56 _ _ hlt
      refine ⟨_, rfl, .inl ⟨rfl, _, SqL.of hlt6⟩, _, rfl, _, rfl, by omega, by omega, ?_⟩
      rw [hM, show ((M : Nat) : Int).toNat = M from rfl]
      refine cmp_range (lo := 0) (n := M) (fun j ys σ H7 => ∃ ws : List W, ys = tx ws ∧ H7 = H6 ∧ (∀ u ∈ ws, okW u) ∧ ws.length = j ∧ ∃ o, σ = [o, some (.ref a), some (.int (i : Int))]) ⟨[], rfl, rfl, fun u hu => absurd hu List.not_mem_nil, rfl, none, rfl⟩
        (fun j ys σ H7 hj ⟨ws, e, _, _, l3, _⟩ => by rw [e, tx_len, l3]; exact Nat.le_trans (show _ ≤ 1000000 by omega) (by decide)) ?_ ?_
      case refine_2 =>
        rintro j ys σ H7 hj ⟨ws, rfl, rfl, hw, l3, o, rfl⟩
        dsimp only [gName, tYes]
        rw [show (0 : Int) + (j : Int) = (j : Int) from Int.zero_add _]
        refine iteT ⟨_, rfl, _, rfl, _, _, rfl, rfl, a, ns, _, rfl, S26.seq hS, by omega, by omega, fun c3 => ⟨_, rfl, c3, _, rfl, by omega, by omega, fun c4 => ⟨_, rfl, _, _, rfl, rfl, _, rfl, fun u hu => ?_⟩⟩⟩
        refine ⟨ws ++ [u], by rw [tx_snoc], rfl, fun z hz => ?_, by rw [List.length_append, l3]; rfl, _, rfl⟩
        rcases List.mem_append.mp hz with y | y
        · exact hw z y
        · rw [List.mem_singleton.mp y]; exact hu
      rintro ys σ H7 ⟨ws, rfl, rfl, hw, l3, _⟩ lo nlo
      have S8 := same_new (o := .lst (tx ws)) nlo
      have hlo : upd H7 lo (.lst (tx ws)) lo = some (.lst (tx ws)) := upd_same
      have lne : lo ≠ lt := (ne_of_none hlt6 nlo).symm
      have flo := S26.free nlo
      have S28 := S26.trans S8
      have hlt8 := S8 _ _ hlt6
      have hT8 := (hT.same S56).same S8
      generalize upd H7 lo (.lst (tx ws)) = H8 at S8 hlo S28 hlt8 hT8
      have lu := hT.len
      refine ⟨lt, _, _, rfl, rfl, hlt8, Nat.lt_of_le_of_lt (show us.length ≤ 100 by omega) (by decide), ?_⟩
      refine ⟨us ++ [.ref lo], wss ++ [ws], _, _, rfl, same_upd S28 nlt, upd_same, ?_, by rw [List.length_append, lw]; rfl, fun v hv => ?_⟩
      · have up : ∀ {vs : List V} {ts : List (List W)}, Txs H8 vs ts → (∀ v ∈ vs, ∃ b, v = .ref b ∧ H b = none ∧ b ≠ lt) → Txs (upd H8 lt (.lst (us ++ [.ref lo]))) vs ts := by
          intro vs ts h
          induction h with
          | nil => intro _; exact .nil
          | cons h t ih =>
            intro z
            obtain ⟨p, e, hp, r⟩ := h
            obtain ⟨b, e2, _, nb⟩ := z _ List.mem_cons_self
            rw [e] at e2
            cases e2
            exact .cons ⟨p, e, by rw [upd_ne nb]; exact hp, r⟩ (ih fun v hv => z v (List.mem_cons_of_mem _ hv))
        exact (up hT8 nin).snoc ⟨lo, rfl, by rw [upd_ne lne]; exact hlo, hw, by omega⟩
      · rcases List.mem_append.mp hv with y | y
        · exact nin v y
        · rw [List.mem_singleton.mp y]
          exact ⟨lo, rfl, flo, lne⟩
    · rintro σ H2 ⟨us, wss, o3, o4, rfl, S2, hlt, hT, lw, nin⟩
      exact ⟨_, rfl, q lt us wss H2 S2 nlt hlt hT lw fun v hv => let ⟨b, e, n, _⟩ := nin v hv; ⟨b, e, n⟩⟩
end
end JH
set_option Elab.async false
set_option linter.all false
set_option maxRecDepth 100000
set_option maxHeartbeats 1000000
namespace JH
open PySem L2 Lin Tre PySem.W
open Sta (R HasR Low)
abbrev sPrd69 : Stmt := top 69
def spPrd (C4 C6 C7 : Addr) : Sp := fun vs H Q E => ∃ (x y : V) (t : T) (wide : Int), vs = [x, y, .int wide] ∧ At H x t ∧ sz t ≤ 1000 ∧
  ((∃ (n : List Int) (a : Addr) (xs : List V) (wss : List (List W)) (P : R), IsTree t ∧ Good t n ∧ y = .ref a ∧ H a = some (.lst xs) ∧ Txs H xs wss ∧ xs.length = n.length ∧ HasR (Lvs wss) t P ∧ (wide < 1 ∨ 400 < wide ∨ Low P wide.toNat none) ∧ ∀ H', Same H H' → E (.ref C7) none H') ∨ Refd C4 C6 H y t E)
section
variable {P : Program} {w : World} {K : PySem.W.Frag} {mg : Str → Option Value} {base : Heap} {kA : Addr}
theorem scPrd : FnScope ["tree", "texts", "wide", "high", "rows", "words", "box", "number", "line"] ["tree", "texts", "wide"] (defScope sPrd69) := ⟨rfl, rfl, rfl, by decide +kernel, rfl, by decide +kernel, by decide +kernel⟩
theorem ok_prd {f fR fH C4 C6 C7 : Addr} {fd dR dH : FuncData} (F : Fun K "printed" "printed" sPrd69 f fd) (ex : Exc K mg "NoRoom" C7) (gMW : GI mg "MOST_WIDE" 400) (Rt : Callee P w K mg base (CXE P w) 8 "refuse_no_texts" fR dR ["tree", "texts"] (spRTx C4 C6)) (Hi : Callee P w K mg base (CXE P w) 30 "height_in" fH dH ["tree", "texts", "wide"] (spHin C4 C6 C7)) :
    FnOk P w K mg base (CXE P w) 31 f fd ["tree", "texts", "wide"] (spPrd C4 C6 C7) := by
  refine F.okE scPrd (fun vs H Q E h => ?_) (fun cdv A outer s H vs Q E hr hh h => ?_)
  · obtain ⟨x, y, t, wide, rfl, _⟩ := h
    rfl
  · obtain ⟨x, y, t, wide, rfl, hA, hz, h⟩ := h
    refine ⟨_, (pss_cons (ps_expr (pe_call Rt.ok (hr.mono (show 8 ≤ 30 by decide)) rfl Rt.bound Rt.kp Rt.bd .nil passEE (pa_cons (pv 0) (pa_cons (pv 1) pa_nil))))
      (pss_cons (ps_if (pt_not (pt_chain op_le op_le pe_int (pv 2) (pe_gi rfl gMW)))
      (pss_one (ps_raise ex hh rfl (pa_cons pe_str pa_nil)))
      pss_nil)
      (pss_cons (ps_set (i := 3) scPrd.nd rfl (Or.inl rfl) (pe_call Hi.ok hr rfl Hi.bound Hi.kp Hi.bd .nil passEE (pa_cons (pv 0) (pa_cons (pv 1) (pa_cons (pv 2) pa_nil)))))
      pss_never))), ?_⟩
    rcases h with ⟨n, a, xs, wss, P1, iT, g, rfl, ha, hT, hl, hR, hw, qe⟩ | ⟨n, a, xs, bs, iT, g, rfl, ha, hJ, hl, hb, qe⟩ | ⟨iT, hn, qe⟩ | ⟨nT, qe⟩
    · have n24 := (iT.okN g).2
      refine ⟨_, rfl, _, rfl, x, .ref a, t, rfl, hA, hz, .inl ⟨n, a, xs, _, iT, g, rfl, ha, hT.jts, by omega, .inl ⟨hl, by simp, fun H1 S1 => ?_⟩⟩⟩
      dsimp only
      refine seq_if (p := ¬ (1 ≤ wide ∧ wide ≤ 400)) (tst_not (tst_of (p := 1 ≤ wide ∧ wide ≤ 400) (by
        rw [Bool.decide_and]
        exact evl_chain evl_c (evl_var rfl) evl_c))) (fun c => ?_) (fun c => ?_)
      · exact ⟨by show 1 ≤ sizeLine; decide, qe _ S1⟩
      · have c : 1 ≤ wide ∧ wide ≤ 400 := Decidable.not_not.mp c
        obtain ⟨wd, rfl⟩ := Int.eq_ofNat_of_zero_le (show 0 ≤ wide by omega)
        have low : Low P1 wd none := by
          rcases hw with z | z | z
          · omega
          · omega
          · exact z
        refine run_next ?_
        refine ⟨_, rfl, _, rfl, _, rfl, x, .ref a, t, wd, rfl, hA.same S1, hz, .inl ⟨n, a, xs, wss, iT, g, rfl, S1 _ _ ha, hT.same S1, hl, fun P2 k H2 hR2 S2 low2 => ?_, fun P2 H2 hR2 S2 low2 => qe H2 (S1.trans S2)⟩⟩
        rw [Sta.hasR_uniq hR2 hR] at low2
        have := low2.uniq low
        cases this
    · exact ⟨_, rfl, _, rfl, x, .ref a, t, rfl, hA, hz, .inl ⟨n, a, xs, bs, iT, g, rfl, ha, hJ, hl, .inr ⟨hb, qe⟩⟩⟩
    · exact ⟨_, rfl, _, rfl, x, y, t, rfl, hA, hz, .inr (.inl ⟨iT, hn, qe⟩)⟩
    · exact ⟨_, rfl, _, rfl, x, y, t, rfl, hA, hz, .inr (.inr ⟨nT, qe⟩)⟩
end
end JH
set_option Elab.async false
set_option linter.all false
set_option maxRecDepth 100000
set_option maxHeartbeats 1000000
namespace L2
open PySem
section
variable {X : Cx} {es : List Expr} {te : TE} {t : TA}
theorem b_cL {a : List Expr} {c : Pos} (ha : Bx (PE X (.List a c) te)) (hr : Bx (PA X es t)) : Bx (PA X (.List a c :: es) (tCons te t)) := ⟨pa_cL ha.get hr.get⟩
theorem b_lst {pos : Pos} (h : Bx (PA X es t)) : Bx (PE X (.List es pos) (tLst t)) := ⟨pe_lst h.get⟩
theorem b_setCat {i j : Nat} {x y : Str} {p pos pos' p2 p3 : Pos} (hN : X.N.Nodup) (hi : X.N[i]? = some x) (hx : Loc X.env.scope x) (hv : PE X (.Name y p3) (tVar j)) (he : Bx (PA X es t)) (hs : swapsWith (.BinOp (.Name y p3) .Add (.List es p) p2) (some (.Name x pos')) pos.line X.env = pure false) (hf : X.fn x = true ∨ X.env.scope.names.lookup x = some .local) :
    Bx (PS X (.Assign [.Name x pos'] (.BinOp (.Name y p3) .Add (.List es p) p2) pos) (tAsg (tOp rCat (tVar j) (tLst t)) (gName i))) := ⟨ps_set hN hi hx (pe_op op_cat hv (pe_lst he.get)) hs hf⟩
theorem b_cD {ks : List (Option Expr)} {vs : List Expr} {c : Pos} (ha : Bx (PE X (.Dict ks vs c) te)) (hr : Bx (PA X es t)) : Bx (PA X (.Dict ks vs c :: es) (tCons te t)) := ⟨pa_cons ha.get hr.get rfl⟩
end
end L2
namespace JH
open PySem L2 Lin Tre PySem.W
def Rf (v : V) : Prop := flatV v = true ∨ ∃ p, v = .ref p
def Bt (te : TE) (σ : St) (H0 : Hp) : Prop := ∀ (H : Hp) (Q : VK), Same H0 H → (∀ v H', Same H H' → JT H' v false → Rf v → Q v H') → te σ H Q
def Bts (n : Nat) (ta : TA) (σ : St) (H0 : Hp) : Prop := ∀ (H : Hp) (Q : List V → Hp → Prop), Same H0 H → (∀ vs H', Same H H' → vs.length = n → (∀ v ∈ vs, JT H' v false ∧ Rf v) → Q vs H') → ta σ H Q
def Wd (b : Bool) (te : TE) (σ : St) (H0 : Hp) : Prop := ∀ (H : Hp) (Q : VK), Same H0 H → (∀ v H', Same H H' → JW H' v b → Q v H') → te σ H Q
def Wds (bs : List Bool) (ta : TA) (σ : St) (H0 : Hp) : Prop := ∀ (H : Hp) (Q : List V → Hp → Prop), Same H0 H → (∀ vs H', Same H H' → JWs H' vs bs → Q vs H') → ta σ H Q
section
variable {σ : St} {H0 : Hp} {te tk : TE} {ta : TA} {n : Nat} {b : Bool} {bs : List Bool}
theorem bts_nil : Bts 0 tNil σ H0 := fun H Q _ q => q [] H (Same.refl _) rfl fun v hv => (nomatch hv)
theorem bts_cons (h : Bt te σ H0) (r : Bts n ta σ H0) : Bts (n + 1) (tCons te ta) σ H0 := fun H Q S q =>
  h H _ S fun v H1 S1 a1 f1 => r H1 _ (S.trans S1) fun vs H2 S2 l2 a2 => q (v :: vs) H2 (S1.trans S2) (by rw [List.length_cons, l2]) fun u hu => (List.mem_cons.mp hu).elim (fun e => e ▸ ⟨a1.same S2, f1⟩) (a2 u)
theorem bt_c {v : V} (h : ∀ H, NoL H v) (f : flatV v = true) : Bt (tC v) σ H0 := fun H Q _ q => q v H (Same.refl _) (.inr ⟨rfl, h H⟩) (.inl f)
theorem wd_s {x : Str} (l : W) (e : x = txt l) (asc : ∀ c ∈ l, c < 128) (len : l.length ≤ 1000) : Wd (isW l) (tC (.str x)) σ H0 := fun H Q _ q => q _ H (Same.refl _) (.inl ⟨l, by rw [e], asc, len, rfl⟩)
theorem wd_n {v : V} (h : ∀ H, NoS H v) : Wd false (tC v) σ H0 := fun H Q _ q => q v H (Same.refl _) (.inr ⟨rfl, h H⟩)
theorem wds_nil : Wds [] tNil σ H0 := fun H Q _ q => q [] H (Same.refl _) .nil
theorem wds_cons (h : Wd b te σ H0) (r : Wds bs ta σ H0) : Wds (b :: bs) (tCons te ta) σ H0 := fun H Q S q =>
  h H _ S fun v H1 S1 a1 => r H1 _ (S.trans S1) fun vs H2 S2 a2 => q (v :: vs) H2 (S1.trans S2) (.cons (a1.same S2) a2)
theorem wd_l (h : Wds bs ta σ H0) (hn : bs.length ≤ 100) : Wd false (tLst ta) σ H0 := fun H Q S q =>
  h H _ S fun vs H1 S1 a1 => ⟨Nat.le_trans (show vs.length ≤ 100 by rw [a1.len]; exact hn) (by decide), fun p np => q (.ref p) _ (S1.trans (same_new np)) (.inr ⟨rfl, .lst upd_same⟩)⟩
theorem bt_l (h : Wds bs ta σ H0) (hb : bs.all id = false) (hn : bs.length ≤ 100) : Bt (tLst ta) σ H0 := fun H Q S q =>
  h H _ S fun vs H1 S1 a1 => ⟨Nat.le_trans (show vs.length ≤ 100 by rw [a1.len]; exact hn) (by decide), fun p np => q (.ref p) _ (S1.trans (same_new np)) (.inl ⟨p, vs, bs, rfl, upd_same, a1.same (same_new np), by rw [a1.len]; omega, by rw [hb]; rfl⟩) (.inr ⟨p, rfl⟩)⟩
theorem bt_t (h : Wds bs ta σ H0) (hn : bs.length ≤ 100) : Bt (tTup ta) σ H0 := fun H Q S q =>
  h H _ S fun vs H1 S1 a1 => ⟨Nat.le_trans (show vs.length ≤ 100 by rw [a1.len]; exact hn) (by decide), fun p np => q (.ref p) _ (S1.trans (same_new np)) (.inr ⟨rfl, .tup upd_same⟩) (.inr ⟨p, rfl⟩)⟩
theorem bt_d : Bt tDNewK σ H0 := fun H Q _ q => fun p np => q (.ref p) _ (same_new np) (.inr ⟨rfl, .dK upd_same⟩) (.inr ⟨p, rfl⟩)
theorem jws_rep {H : Hp} {v : V} {b : Bool} (h : JW H v b) : ∀ k : Nat, JWs H (List.replicate k [v]).flatten (List.replicate k b)
  | 0 => .nil
  | k + 1 => .cons h (jws_rep h k)
theorem bt_rep {m : Int} (h : Wds [b] ta σ H0) (hk : ∀ H Q, Q (.int m) H → tk σ H Q) (m1 : 41 ≤ m) (m2 : m ≤ 200) : Bt (tOp rRep (tLst ta) tk) σ H0 := fun H Q S q =>
  h H _ S fun vs H1 S1 a1 => by
    have lv := a1.len
    refine ⟨Nat.le_trans (show vs.length ≤ 100 by rw [lv]; show 1 ≤ 100; decide) (by decide), fun p np => ?_⟩
    have S2 := same_new (o := .lst vs) np
    have hp : upd H1 p (.lst vs) p = some (.lst vs) := upd_same
    have a2 := a1.same S2
    generalize upd H1 p (.lst vs) = H2 at S2 hp a2
    obtain ⟨v, rfl, hv⟩ : ∃ v, vs = [v] ∧ JW H2 v b := by
      cases a2 with
      | cons r t => cases t; exact ⟨_, rfl, r⟩
    refine hk _ _ ⟨p, m, [v], rfl, rfl, hp, by omega, by omega, ?_, fun p2 np2 => ?_⟩
    · rw [List.length_singleton, Nat.one_mul]
      exact Nat.le_trans (show m.toNat ≤ 200 by omega) (by decide)
    · have S3 := same_new (o := .lst (List.replicate m.toNat [v]).flatten) np2
      refine q (.ref p2) _ (S1.trans (S2.trans S3)) (.inl ⟨p2, _, _, rfl, upd_same, jws_rep (hv.same S3) m.toNat, ?_, ?_⟩) (.inr ⟨p2, rfl⟩)
      · rw [len_rep, List.length_singleton]; omega
      · rw [len_rep, List.length_singleton, decide_eq_false (by omega), Bool.and_false]
end
theorem go_bts {D : Ends} {i : Nat} {u : TS} {σ : St} {H0 H : Hp} {ta : TA} {n : Nat} (t : Bts n ta σ H0) (S : Same H0 H) (hn : n ≤ 100)
    (k : ∀ l us H', Same H H' → H' l = some (.lst us) → us.length = n → (∀ v ∈ us, JT H' v false ∧ Rf v) → u D (σ.set i (some (.ref l))) H') : tSeq (tAsg (tLst ta) (gName i)) u D σ H :=
  t H _ S fun vs H1 S1 l1 a1 => ⟨Nat.le_trans (show vs.length ≤ 100 by omega) (by decide), fun p np => k p vs _ (S1.trans (same_new np)) upd_same l1 fun v hv => ⟨(a1 v hv).1.same (same_new np), (a1 v hv).2⟩⟩
theorem go_btc {D : Ends} {i : Nat} {u : TS} {σ : St} {H0 H : Hp} {ta : TA} {n m : Nat} {l0 : Addr} {vs0 : List V} (e : σ[i]? = some (some (.ref l0))) (h0 : H l0 = some (.lst vs0)) (n0 : vs0.length = m) (a0 : ∀ v ∈ vs0, JT H v false ∧ Rf v) (t : Bts n ta σ H0) (S : Same H0 H) (hn : m + n ≤ 100)
    (k : ∀ l us H', Same H H' → H' l = some (.lst us) → us.length = m + n → (∀ v ∈ us, JT H' v false ∧ Rf v) → u D (σ.set i (some (.ref l))) H') : tSeq (tAsg (tOp rCat (tVar i) (tLst ta)) (gName i)) u D σ H :=
  ⟨_, e, t H _ S fun vs H1 S1 l1 a1 => ⟨Nat.le_trans (show vs.length ≤ 100 by omega) (by decide), fun p np => ⟨l0, p, vs0, vs, rfl, rfl, same_new np _ _ (S1 _ _ h0), upd_same, Nat.le_trans (show vs0.length + vs.length ≤ 200 by omega) (by decide), fun r nr => by
    have S2 := (same_new (o := .lst vs) np).trans (same_new (o := .lst (vs0 ++ vs)) nr)
    refine k r (vs0 ++ vs) _ (S1.trans S2) upd_same (by rw [List.length_append]; omega) fun v hv => ?_
    rcases List.mem_append.mp hv with h | h
    · exact ⟨(a0 v h).1.same (S1.trans S2), (a0 v h).2⟩
    · exact ⟨(a1 v h).1.same S2, (a1 v h).2⟩⟩⟩⟩
theorem jts_of {H : Hp} : ∀ {xs : List V}, (∀ v ∈ xs, JT H v true ∨ JT H v false) → ∃ bs, JTs H xs bs
  | [], _ => ⟨[], .nil⟩
  | x :: r, h => by
    obtain ⟨bs, j⟩ := jts_of (xs := r) fun v hv => h v (List.mem_cons_of_mem _ hv)
    rcases h x List.mem_cons_self with z | z
    · exact ⟨_, .cons z j⟩
    · exact ⟨_, .cons z j⟩
theorem jts_bad {H : Hp} : ∀ {xs : List V}, (∀ v ∈ xs, JT H v true ∨ JT H v false) → (∃ v ∈ xs, JT H v false) → ∃ bs, JTs H xs bs ∧ bs.all id = false
  | [], _, ⟨v, hv, _⟩ => (nomatch hv)
  | x :: r, h, ⟨v, hv, z⟩ => by
    rcases List.mem_cons.mp hv with e | hv
    · subst e
      obtain ⟨bs, j⟩ := jts_of (xs := r) fun u hu => h u (List.mem_cons_of_mem _ hu)
      exact ⟨false :: bs, .cons z j, rfl⟩
    · obtain ⟨bs, j, e⟩ := jts_bad (xs := r) (fun u hu => h u (List.mem_cons_of_mem _ hu)) ⟨v, hv, z⟩
      rcases h x List.mem_cons_self with y | y
      · exact ⟨true :: bs, .cons y j, by rw [List.all_cons, e]; rfl⟩
      · exact ⟨false :: bs, .cons y j, rfl⟩
theorem txs_all {H : Hp} : ∀ {us : List V} {wss : List (List W)}, Txs H us wss → ∀ v ∈ us, JT H v true ∧ Rf v
  | _, _, .nil, v, hv => (nomatch hv)
  | _, _, .cons h t, v, hv => by
    rcases List.mem_cons.mp hv with e | e
    · subst e
      obtain ⟨a, e, _⟩ := id h
      exact ⟨h.jt, .inr ⟨a, e⟩⟩
    · exact txs_all t v e
def spBadT : Sp := fun vs H Q _ => ∃ (l : Addr) (us : List V) (wss : List (List W)) (cell : Int), vs = [.ref l, .int cell] ∧ H l = some (.lst us) ∧ Txs H us wss ∧ 1 ≤ wss.length ∧ wss.length ≤ 24 ∧
  ∀ (g : Addr) (xs : List V) (bs : List Bool) (H' : Hp), Same H H' → H' g = some (.lst xs) → JTs H' xs bs → xs.length ≤ 100 → (∀ v ∈ xs, Rf v) → (xs.length ≠ wss.length ∨ bs.all id = false) → Q (.ref g) H'
section
variable {P : Program} {w : World} {K : PySem.W.Frag} {mg : Str → Option Value} {base : Heap}
abbrev sBad69 : Stmt := top 81
theorem scBadT : FnScope ["texts", "cell", "at", "rest", "some"] ["texts", "cell"] (defScope sBad69) := ⟨rfl, rfl, rfl, by decide +kernel, rfl, by decide +kernel, by decide +kernel⟩
theorem ok_badT {f : Addr} {fd : FuncData} (F : Fun K "_law_bad" "_law_bad" sBad69 f fd) (tl : mg "len" = none) : FnOk P w K mg base CX0 1 f fd ["texts", "cell"] spBadT := by
  refine F.ok scBadT (fun vs H Q E h => ?_) (fun cdv A outer s H vs Q E hr h => ?_)
  · obtain ⟨l, us, wss, cell, rfl, _⟩ := h
    rfl
  · obtain ⟨l, us, wss, cell, rfl, hl, hT, n0, n24, q⟩ := h
    refine' ⟨?uu, ?hb, ?_⟩
    case hb =>
      suffices z : L2.Bx (PSs _ _ ?uu) by
        cases z with
        | mk h => exact h
      refine' b_cons ?a1 (b_cons ?a2 (b_cons ?b1 (b_cons ?b2 ?b3)))
      case a1 => exact ⟨ps_set (i := 2) scBadT.nd rfl (Or.inl rfl) (pe_op op_mod (pe_op op_fdiv (pv 1) pe_int) (pe_callB call_len_seq (by rfl) tl PySem.boot_len (pa_cons (pv 0) pa_nil)))⟩
      case a2 => exact ⟨ps_set (i := 3) scBadT.nd rfl (Or.inl rfl) (pe_op op_fdiv (pv 1) pe_int)⟩
      case b1 => exact b_setL (i := 4) scBadT.nd rfl (Or.inl rfl) (b_cC ⟨pe_non⟩ (b_cC ⟨pe_int⟩ (b_cC ⟨pe_bl⟩ (b_cC ⟨pe_str⟩ (b_cT (b_tup (b_cC ⟨pe_str⟩ b_nil)) (b_cD ⟨pe_dnewK⟩ (b_cL (b_lst (b_cC ⟨pe_str⟩ (b_cC ⟨pe_int⟩ b_nil))) (b_cL (b_lst (b_cC ⟨pe_str⟩ (b_cC ⟨pe_non⟩ b_nil))) (b_cL (b_lst (b_cC ⟨pe_str⟩ b_nil)) (b_cL (b_lst (b_cC ⟨pe_str⟩ b_nil)) (b_cL (b_lst (b_cC ⟨pe_str⟩ b_nil)) b_nil))))))))))) (Or.inr rfl)
      case b2 => exact b_setCat (i := 4) (j := 4) scBadT.nd rfl (Or.inl rfl) (pv 4) (b_cB ⟨pe_op op_rep (pe_lst (pa_cC pe_str pa_nil)) pe_int⟩ (b_cL (b_lst (b_cL (b_lst (b_cC ⟨pe_str⟩ b_nil)) b_nil)) b_nil)) rfl (Or.inr rfl)
      case b3 => exact ⟨(pss_cons (ps_if (pt_cmpR op_eq (pe_op op_mod (pv 1) pe_int) pe_int (nomark _)) (pss_one (ps_ret (pe_op op_cat (pe_op op_cat (pe_slice sl_list (pv 0) po_none (po_some (pv 2))) (pe_lst (pa_cons (pe_lst (pa_cons pe_str pa_nil)) pa_nil))) (pe_slice sl_list (pv 0) (po_some (pv 2)) po_none)))) pss_nil)
      (pss_cons (ps_if (pt_cmpR op_eq (pe_op op_mod (pv 1) pe_int) pe_int (nomark _)) (pss_one (ps_ret (pe_op op_cat (pe_slice sl_list (pv 0) po_none (po_some (pv 2))) (pe_slice sl_list (pv 0) (po_some (pe_op op_add (pv 2) pe_int)) po_none)))) pss_nil)
      (pss_one (ps_ret (pe_op op_cat (pe_op op_cat (pe_slice sl_list (pv 0) po_none (po_some (pv 2))) (pe_lst (pa_cons (pe_ix ix_list (pv 4) (pe_op op_mod (pv 3) (pe_callB call_len_seq (by rfl) tl PySem.boot_len (pa_cons (pv 4) pa_nil))) (fun _ _ => rfl)) pa_nil))) (pe_slice sl_list (pv 0) (po_some (pe_op op_add (pv 2) pe_int)) po_none))))))⟩
    have ea : ("a" : Str) = txt [97] := by decide +kernel
    have wa : ∀ {σ : St} {H0 : Hp}, Wd true (tC (.str "a")) σ H0 := wd_s [97] ea (by decide) (by decide)
    have lu := hT.len
    refine ⟨_, rfl, _, _, rfl, rfl, ⟨by decide, by decide⟩, _, rfl, _, _, rfl, .inl (SqL.of hl), _, _, rfl, rfl, by omega, ?_⟩
    refine run_gname ?_
    dsimp only
    have k0 := Int.emod_nonneg (cell / 3) (show (us.length : Int) ≠ 0 by omega)
    have k1 := Int.emod_lt_of_pos (cell / 3) (show (0 : Int) < (us.length : Int) by omega)
    generalize cell / 3 % (us.length : Int) = at_ at k0 k1
    obtain ⟨k, rfl⟩ := Int.eq_ofNat_of_zero_le k0
    refine ⟨_, rfl, _, _, rfl, rfl, ⟨by decide, by decide⟩, ?_⟩
    refine run_gname ?_
    dsimp only
    refine go_bts (n := 11) (H0 := H) (bts_cons (bt_c (fun _ => .non) rfl) (bts_cons (bt_c (fun _ => .int _) rfl) (bts_cons (bt_c (fun _ => .bl _) rfl) (bts_cons (bt_c (fun _ => .str _) rfl) (bts_cons (bt_t (wds_cons wa wds_nil) (by decide)) (bts_cons bt_d
      (bts_cons (bt_l (wds_cons wa (wds_cons (wd_n fun _ => .int _) wds_nil)) (by decide) (by decide))
      (bts_cons (bt_l (wds_cons wa (wds_cons (wd_n fun _ => .non) wds_nil)) (by decide) (by decide))
      (bts_cons (bt_l (wds_cons (wd_s [] (by decide +kernel) (by decide) (by decide)) wds_nil) (by decide) (by decide))
      (bts_cons (bt_l (wds_cons (wd_s [97, 32, 98] (by decide +kernel) (by decide) (by decide)) wds_nil) (by decide) (by decide))
      (bts_cons (bt_l (wds_cons (wd_s [97, 98, 99, 100, 101, 102, 103, 104, 105, 106, 107, 108, 109] (by decide +kernel) (by decide) (by decide)) wds_nil) (by decide) (by decide)) bts_nil))))))))))) (Same.refl _) (by decide) fun l1 us1 H1 S1 hl1 n1 a1 => ?_
    refine go_btc (n := 2) (m := 11) (H0 := H1) rfl hl1 n1 a1 (bts_cons (bt_rep (m := 41) (wds_cons wa wds_nil) (fun H Q z => z) (by decide) (by decide)) (bts_cons (bt_l (wds_cons (wd_l (wds_cons wa wds_nil) (by decide)) wds_nil) (by decide) (by decide)) bts_nil)) (Same.refl _) (by decide) fun l2 us2 H2 S2 hl2 n2 a2 => ?_
    have S12 := S1.trans S2
    have hl' := S12 _ _ hl
    have r0 := Int.emod_nonneg (cell / 72) (show ((us2.length : Nat) : Int) ≠ 0 by omega)
    have r1 := Int.emod_lt_of_pos (cell / 72) (show (0 : Int) < ((us2.length : Nat) : Int) by omega)
    have all := txs_all (hT.same S12)
    have fin : ∀ (g : Addr) (xs : List V) (H' : Hp), Same H2 H' → H' g = some (.lst xs) → (∀ v ∈ xs, (JT H' v true ∨ JT H' v false) ∧ Rf v) → xs.length ≤ 100 → (xs.length ≠ us.length ∨ ∃ v ∈ xs, JT H' v false) → Q (.ref g) H' := fun g xs H' S hg ha hn hb => by
      rcases hb with z | z
      · obtain ⟨bs, j⟩ := jts_of fun v hv => (ha v hv).1
        exact q g xs bs H' (S12.trans S) hg j hn (fun v hv => (ha v hv).2) (.inl (by omega))
      · obtain ⟨bs, j, e⟩ := jts_bad (fun v hv => (ha v hv).1) z
        exact q g xs bs H' (S12.trans S) hg j hn (fun v hv => (ha v hv).2) (.inr e)
    have fromU : ∀ {H' : Hp}, Same H2 H' → ∀ v ∈ us, (JT H' v true ∨ JT H' v false) ∧ Rf v := fun S v hv => ⟨.inl ((all v hv).1.same S), (all v hv).2⟩
    have e1 : cutV us none (some (k : Int)) = us.take k := cutV_take us k (by omega)
    have e2 : cutV us (some ((k : Int) + 1)) none = us.drop (k + 1) := cutV_drop us (k + 1) (by omega)
    have e3 : cutV us (some (k : Int)) none = us.drop k := cutV_drop us k (by omega)
    refine ⟨_, rfl, _, _, rfl, rfl, by show (0 : Int) < 3; decide, rfl, _, rfl, ?_⟩
    refine ite2 (fun c1 => ?_) (fun c1 => ?_)
    · refine ⟨_, rfl, _, rfl, _, rfl, l, us, rfl, SqL.of hl', fun p1 m1 => ?_⟩
      rw [e1]
      have T1 := same_new (o := .lst (us.take k)) m1
      have h1 : upd H2 p1 (.lst (us.take k)) p1 = some (.lst (us.take k)) := upd_same
      generalize upd H2 p1 (.lst (us.take k)) = H3 at T1 h1
      refine ⟨by show 1 ≤ sizeLine; decide, fun p2 m2 => ⟨by show 1 ≤ sizeLine; decide, fun p3 m3 => ?_⟩⟩
      have U1 := same_new (o := .lst [V.str "a"]) m2
      have U2 := same_new (o := .lst [V.ref p2]) m3
      have g2 := U2 _ _ (upd_same (H := H3) (a := p2) (o := .lst [V.str "a"]))
      have g3 : upd (upd H3 p2 (.lst [V.str "a"])) p3 (.lst [V.ref p2]) p3 = some (.lst [V.ref p2]) := upd_same
      have h1 := (U1.trans U2) _ _ h1
      have T2 := T1.trans (U1.trans U2)
      generalize upd (upd H3 p2 (.lst [V.str "a"])) p3 (.lst [V.ref p2]) = H4 at T2 g2 g3 h1
      refine ⟨p1, p3, _, _, rfl, rfl, h1, g3, Nat.le_trans (show _ ≤ 1000 by rw [List.length_take]; show _ + 1 ≤ 1000; omega) (by decide), fun p4 m4 => ?_⟩
      have U4 := same_new (o := .lst (us.take k ++ [V.ref p2])) m4
      have g4 : upd H4 p4 (.lst (us.take k ++ [V.ref p2])) p4 = some (.lst (us.take k ++ [V.ref p2])) := upd_same
      have g2 := U4 _ _ g2
      have T4 := T2.trans U4
      generalize upd H4 p4 (.lst (us.take k ++ [V.ref p2])) = H5 at T4 g4 g2
      refine ⟨_, rfl, _, rfl, _, rfl, l, us, rfl, SqL.of (T4 _ _ hl'), fun p5 m5 => ?_⟩
      rw [e3]
      have U5 := same_new (o := .lst (us.drop k)) m5
      have g5 : upd H5 p5 (.lst (us.drop k)) p5 = some (.lst (us.drop k)) := upd_same
      have g4 := U5 _ _ g4
      have g2 := U5 _ _ g2
      have T5 := T4.trans U5
      generalize upd H5 p5 (.lst (us.drop k)) = H6 at T5 g5 g4 g2
      refine ⟨p4, p5, _, _, rfl, rfl, g4, g5, Nat.le_trans (show _ ≤ 1000 by rw [List.length_append, List.length_take, List.length_drop, List.length_singleton]; omega) (by decide), fun p6 m6 => ?_⟩
      have U6 := same_new (o := .lst (us.take k ++ [V.ref p2] ++ us.drop k)) m6
      have T6 := T5.trans U6
      refine fin p6 _ _ T6 upd_same (fun v hv => ?_) (by rw [List.length_append, List.length_append, List.length_take, List.length_drop, List.length_singleton]; omega) (.inl (by rw [List.length_append, List.length_append, List.length_take, List.length_drop, List.length_singleton]; omega))
      rcases List.mem_append.mp hv with h | h
      · rcases List.mem_append.mp h with h | h
        · exact fromU T6 v (List.mem_of_mem_take h)
        · rw [List.mem_singleton.mp h]
          exact ⟨.inl (.inl ⟨p2, _, [true], rfl, U6 _ _ g2, .cons (.inl ⟨[97], by rw [ea], by decide, by decide, rfl⟩) .nil, by decide, rfl⟩), .inr ⟨p2, rfl⟩⟩
      · exact fromU T6 v (List.mem_of_mem_drop h)
    refine run_next ?_
    dsimp only
    refine ⟨_, rfl, _, _, rfl, rfl, by show (0 : Int) < 3; decide, rfl, _, rfl, ?_⟩
    refine ite2 (fun c2 => ?_) (fun c2 => ?_)
    · refine ⟨_, rfl, _, rfl, _, rfl, l, us, rfl, SqL.of hl', fun p1 m1 => ?_⟩
      rw [e1]
      have T1 := same_new (o := .lst (us.take k)) m1
      have h1 : upd H2 p1 (.lst (us.take k)) p1 = some (.lst (us.take k)) := upd_same
      generalize upd H2 p1 (.lst (us.take k)) = H3 at T1 h1
      refine ⟨_, rfl, _, rfl, _, _, rfl, rfl, _, rfl, l, us, rfl, SqL.of (T1 _ _ hl'), fun p2 m2 => ?_⟩
      rw [e2]
      have T2 := same_new (o := .lst (us.drop (k + 1))) m2
      have h2 : upd H3 p2 (.lst (us.drop (k + 1))) p2 = some (.lst (us.drop (k + 1))) := upd_same
      have h1 := T2 _ _ h1
      have T2 := T1.trans T2
      generalize upd H3 p2 (.lst (us.drop (k + 1))) = H4 at T2 h2 h1
      refine ⟨p1, p2, _, _, rfl, rfl, h1, h2, Nat.le_trans (show _ ≤ 1000 by rw [List.length_take, List.length_drop]; omega) (by decide), fun p3 m3 => ?_⟩
      have T3 := T2.trans (same_new (o := .lst (us.take k ++ us.drop (k + 1))) m3)
      refine fin p3 _ _ T3 upd_same (fun v hv => fromU T3 v ?_) (by rw [List.length_append, List.length_take, List.length_drop]; omega) (.inl (by rw [List.length_append, List.length_take, List.length_drop]; omega))
      rcases List.mem_append.mp hv with h | h
      · exact List.mem_of_mem_take h
      · exact List.mem_of_mem_drop h
    refine run_next ?_
    dsimp only
    refine ⟨_, rfl, _, rfl, _, rfl, l, us, rfl, SqL.of hl', fun p1 m1' => ?_⟩
    rw [e1]
    have T1 := same_new (o := .lst (us.take k)) m1'
    have h1 : upd H2 p1 (.lst (us.take k)) p1 = some (.lst (us.take k)) := upd_same
    generalize upd H2 p1 (.lst (us.take k)) = H3 at T1 h1
    obtain ⟨j, ej⟩ := Int.eq_ofNat_of_zero_le r0
    have jlt : j < us2.length := by omega
    have hj : us2[j]? = some (us2[j]'(by omega)) := List.getElem?_eq_getElem (by omega)
    have hx := a2 _ (List.getElem_mem (show j < us2.length by omega))
    generalize us2[j]'(by omega) = x at hj hx
    refine ⟨_, rfl, _, rfl, _, rfl, l2, us2, rfl, .inl (SqL.of (T1 _ _ hl2)), _, _, rfl, rfl, by show (0 : Int) < ((us2.length : Nat) : Int); omega, _, _, _, _, rfl, rfl, SqL.of (T1 _ _ hl2), (by rw [ej]; exact atI_nat hj), by show 1 ≤ sizeLine; decide, fun p3 m3 => ?_⟩
    have U3 := same_new (o := .lst [x]) m3
    have g3 : upd H3 p3 (.lst [x]) p3 = some (.lst [x]) := upd_same
    have h1 := U3 _ _ h1
    have T3 := T1.trans U3
    generalize upd H3 p3 (.lst [x]) = H4 at T3 g3 h1
    refine ⟨p1, p3, _, _, rfl, rfl, h1, g3, Nat.le_trans (show _ ≤ 1000 by rw [List.length_take, List.length_singleton]; omega) (by decide), fun p4 m4 => ?_⟩
    have U4 := same_new (o := .lst (us.take k ++ [x])) m4
    have g4 : upd H4 p4 (.lst (us.take k ++ [x])) p4 = some (.lst (us.take k ++ [x])) := upd_same
    have T4 := T3.trans U4
    generalize upd H4 p4 (.lst (us.take k ++ [x])) = H5 at T4 g4
    refine ⟨_, rfl, _, rfl, _, _, rfl, rfl, _, rfl, l, us, rfl, SqL.of (T4 _ _ hl'), fun p5 m5 => ?_⟩
    rw [e2]
    have U5 := same_new (o := .lst (us.drop (k + 1))) m5
    have g5 : upd H5 p5 (.lst (us.drop (k + 1))) p5 = some (.lst (us.drop (k + 1))) := upd_same
    have g4 := U5 _ _ g4
    have T5 := T4.trans U5
    generalize upd H5 p5 (.lst (us.drop (k + 1))) = H6 at T5 g5 g4
    refine ⟨p4, p5, _, _, rfl, rfl, g4, g5, Nat.le_trans (show _ ≤ 1000 by rw [List.length_append, List.length_take, List.length_drop, List.length_singleton]; omega) (by decide), fun p6 m6 => ?_⟩
    have T6 := T5.trans (same_new (o := .lst (us.take k ++ [x] ++ us.drop (k + 1))) m6)
    refine fin p6 _ _ T6 upd_same (fun v hv => ?_) (by rw [List.length_append, List.length_append, List.length_take, List.length_drop, List.length_singleton]; omega) (.inr ⟨x, List.mem_append_left _ (List.mem_append_right _ List.mem_cons_self), hx.1.same T6⟩)
    rcases List.mem_append.mp hv with h | h
    · rcases List.mem_append.mp h with h | h
      · exact fromU T6 v (List.mem_of_mem_take h)
      · rw [List.mem_singleton.mp h]
        exact ⟨.inr (hx.1.same T6), hx.2⟩
    · exact fromU T6 v (List.mem_of_mem_drop h)
end
end JH
set_option Elab.async false
set_option linter.all false
set_option maxRecDepth 100000
namespace L2
open PySem PySem.Spec PyProof.Rows PySem.W
end L2
set_option Elab.async false
set_option linter.all false
set_option maxRecDepth 100000
set_option maxHeartbeats 1000000
namespace L2
open PySem
theorem call_isiK {X : Cx} {K : PySem.W.Frag} (hK : X.K = K) : CallR X (.builtin "isinstance") (fun xs H Q => ∃ x c t b, xs = [x, c] ∧ isCls c = true ∧ TyX K H x t ∧ PySem.W.kitOne K t (clsV c) = some b ∧ Q (.bl b) H) := by
  subst hK
  exact call_isi
theorem call_isiTK {X : Cx} {K : PySem.W.Frag} (hK : X.K = K) : CallR X (.builtin "isinstance") (fun xs H Q => ∃ x p cs t b, xs = [x, .ref p] ∧ SqT K H p cs ∧ cs.all isCls = true ∧ TyX K H x t ∧ PySem.W.kitAny K t (cs.map clsV) = some b ∧ Q (.bl b) H) := by
  subst hK
  exact call_isiT
theorem pe_appK {X : Cx} {K : PySem.W.Frag} {o e : Expr} {to : TE} {t : TA} {apos cpos : Pos} (hK : X.K = K) (ho : PE X o to) (ha : PA X [e] t)
    (hbase : attributeBase o "append" X.env (eval o X.env) = eval o X.env := by rfl)
    (hfew : ((backTo cpos (starEach [e] X.env)).all (fun x => !x.1) && (backToKw cpos (keywordEach [] X.env)).all (fun x => x.1.isSome)
      && decide ([e].length + ([] : List Keyword).length + (if ([] : List Keyword).isEmpty then 0 else 1) < 30)) = true := by rfl)
    (hline : (apos.endLine == cpos.line) = true := by rfl) (hs : starEach [e] X.env = (false, eval e X.env) :: starEach [] X.env := by rfl) (hplain : (backTo cpos (starEach [] X.env)).any (·.1) = false := by rfl) :
    PE X (.Call (.Attribute o "append" apos) [e] [] cpos) (tBM K "list" rAppend to t) := by
  subst hK
  exact pe_bm PySem.F.plainAttrs_list PySem.F.slot_list_append PySem.F.type_list_append mt_append ho ha hbase hfew hline hs hplain
theorem seq_try {i : Nat} {CP : Addr → Prop} {tb : (Addr → St → Hp → Prop) → TS} {ts u : TS} {D : Ends} {σ : St} {H : Hp} (G : Addr → St → Hp → Prop)
    (hand : ∀ C σ1 H1, G C σ1 H1 → CP C ∧ ∀ ea, H1 ea = none → ts { nx := fun σ2 H2 => u D (σ2.set i none) H2, rt := D.rt, bk := fun σ2 H2 => D.bk (σ2.set i none) H2, ct := fun σ2 H2 => D.ct (σ2.set i none) H2 } (σ1.set i (some (.ref ea))) (upd H1 ea (.ext (ExcIs ea C))))
    (body : ∀ Ec : Addr → St → Hp → Prop, (∀ C σ1 H1, G C σ1 H1 → Ec C σ1 H1) → tb Ec { D with nx := u D } σ H) : tSeq (tTry i CP tb ts) u D σ H := body _ hand
end L2
namespace JH
open PySem L2 Lin Tre PySem.W
open Sta (R HasR Low)
abbrev sRfd69 : Stmt := top 80
structure OneKind (K : PySem.W.Frag) (C0 C1 C2 C3 C4 C5 C6 C7 C8 C9 C : Addr) (d : Nat) : Prop where
  cE : ExcCls K C
  up : mroIn K C (.ref C0) = some true
  k7 : kitOne K (.ref C) (.ref C7) = some (decide (d = 0))
  k6 : kitOne K (.ref C) (.ref C6) = some (decide (d = 1))
  k4 : kitOne K (.ref C) (.ref C4) = some (decide (d = 2))
  kv : kitOne K (.ref C) (.type "ValueError") = some true
  kA : kitAny K (.ref C) [.ref C2, .ref C1, .ref C3, .ref C5, .ref C8, .ref C9] = some false
structure Kinds (K : PySem.W.Frag) (mg : Str → Option Value) (C0 C1 C2 C3 C4 C5 C6 C7 C8 C9 : Addr) : Prop where
  m0 : mg "PartError" = some (.ref C0)
  m1 : mg "NoPage" = some (.ref C1)
  m2 : mg "NoPicture" = some (.ref C2)
  m3 : mg "NoPlace" = some (.ref C3)
  m4 : mg "NoTree" = some (.ref C4)
  m5 : mg "NoNeeds" = some (.ref C5)
  m6 : mg "NoTexts" = some (.ref C6)
  m7 : mg "NoRoom" = some (.ref C7)
  m8 : mg "NoRow" = some (.ref C8)
  m9 : mg "NoNumber" = some (.ref C9)
  mv : mg "ValueError" = none
  cP : ExcCls K C0
  kR : OneKind K C0 C1 C2 C3 C4 C5 C6 C7 C8 C9 C7 0
  kX : OneKind K C0 C1 C2 C3 C4 C5 C6 C7 C8 C9 C6 1
  kT : OneKind K C0 C1 C2 C3 C4 C5 C6 C7 C8 C9 C4 2
theorem boot_VE : bootBuiltins "ValueError" = some (.type "ValueError") := by decide +kernel
def Fails (d : Nat) : List V := [.bl (decide (d = 0)), .bl (decide (d = 1)), .bl (decide (d = 2)), .bl true, .bl false]
def RefQ (H : Hp) (y : V) (t : T) (wide : Int) (d : Nat) : Prop := (d = 0 ∧ ∃ (n : List Int) (a : Addr) (xs : List V) (wss : List (List W)) (P : R), IsTree t ∧ Good t n ∧ y = .ref a ∧ H a = some (.lst xs) ∧ Txs H xs wss ∧ xs.length = n.length ∧ HasR (Lvs wss) t P ∧ (wide < 1 ∨ 400 < wide ∨ Low P wide.toNat none)) ∨
  (d = 1 ∧ ∃ (n : List Int) (a : Addr) (xs : List V) (bs : List Bool), IsTree t ∧ Good t n ∧ y = .ref a ∧ H a = some (.lst xs) ∧ JTs H xs bs ∧ xs.length ≤ 1000 ∧ (xs.length ≠ n.length ∨ bs.all id = false)) ∨ (d = 2 ∧ ¬ IsTree t)
theorem eq_same {K : PySem.W.Frag} {H : Hp} {a b : Addr} {xs : List V} (ha : H a = some (.lst xs)) (hb : H b = some (.lst xs)) (f : xs.all flatV = true) : EqR K H 1 (.ref a) (.ref b) true := by
  refine eqR_true (EqR.lsts (n := 0) (e := fun j => eqV (xs.getD j .non) (xs.getD j .non)) (SqL.of ha) (SqL.of hb) rfl fun j hj => ?_) (List.all_eq_true.mpr fun j hj => ?_)
  · have fj : flatV (xs.getD j .non) = true := by
      rw [List.getD_eq_getElem?_getD, List.getElem?_eq_getElem hj]
      exact List.all_eq_true.mp f _ (List.getElem_mem hj)
    exact .flat fj fj
  · have hj : j < xs.length := List.mem_range.mp hj
    refine eqV_refl ?_
    rw [List.getD_eq_getElem?_getD, List.getElem?_eq_getElem hj]
    exact List.all_eq_true.mp f _ (List.getElem_mem hj)
def spRfd : Sp := fun vs H Q _ => ∃ (x y : V) (t : T) (wide : Int) (d : Nat), vs = [x, y, .int wide, .int (d : Int)] ∧ At H x t ∧ sz t ≤ 1000 ∧ RefQ H y t wide d ∧ ∀ H', Same H H' → Q (.bl true) H'
section
variable {P : Program} {w : World} {K : PySem.W.Frag} {mg : Str → Option Value} {base : Heap}
theorem scRfd : FnScope ["tree", "texts", "wide", "way", "kinds", "e"] ["tree", "texts", "wide", "way"] (defScope sRfd69) := ⟨rfl, rfl, rfl, by decide +kernel, rfl, by decide +kernel, by decide +kernel⟩
theorem ok_rfd {f fP C0 C1 C2 C3 C4 C5 C6 C7 C8 C9 : Addr} {fd dP : FuncData} (F : Fun K "_law_refused" "_law_refused" sRfd69 f fd) (ti : mg "isinstance" = none) (Z : Kinds K mg C0 C1 C2 C3 C4 C5 C6 C7 C8 C9)
    (Pr : Callee P w K mg base (CXE P w) 31 "printed" fP dP ["tree", "texts", "wide"] (spPrd C4 C6 C7)) : FnOk P w K mg base CX0 32 f fd ["tree", "texts", "wide", "way"] spRfd := by
  refine F.ok scRfd (fun vs H Q E h => ?_) (fun cdv A outer s H vs Q E hr h => ?_)
  · obtain ⟨x, y, t, wide, d, rfl, _⟩ := h
    rfl
  · obtain ⟨x, y, t, wide, d, rfl, hA, hz, hR, q⟩ := h
    have d2 : d ≤ 2 := by
      rcases hR with ⟨e, _⟩ | ⟨e, _⟩ | ⟨e, _⟩ <;> omega
    refine ⟨_, pss_cons (ps_set (i := 4) scRfd.nd rfl (Or.inl rfl) (pe_lst pa_nil))
      (pss_cons (ps_try (i := 5) rfl rfl scRfd.nd rfl rfl rfl Z.m0 Z.cP
        (fun pl Ec => pss_one (ps_expr (pe_callX Pr.ok hr rfl Pr.bound Pr.kp Pr.bd .nil rfl (pa_cons (pv 0) (pa_cons (pv 1) (pa_cons (pv 2) pa_nil))))))
        (fun ee => pss_cons (ps_set (i := 4) scRfd.nd rfl (Or.inl rfl) (pe_lst (pa_cons (pe_callB (call_isiK (K := K) rfl) (by rfl) ti PyProof.Rows.boot_isinstance (pa_cons (pv 5) (pa_cons (pe_cls rfl Z.m7) pa_nil))) (pa_cons (pe_callB (call_isiK (K := K) rfl) (by rfl) ti PyProof.Rows.boot_isinstance (pa_cons (pv 5) (pa_cons (pe_cls rfl Z.m6) pa_nil))) (pa_cons (pe_callB (call_isiK (K := K) rfl) (by rfl) ti PyProof.Rows.boot_isinstance (pa_cons (pv 5) (pa_cons (pe_cls rfl Z.m4) pa_nil))) (pa_cons (pe_callB (call_isiK (K := K) rfl) (by rfl) ti PyProof.Rows.boot_isinstance (pa_cons (pv 5) (pa_cons (pe_tyn rfl Z.mv boot_VE) pa_nil))) pa_nil))))))
          (pss_one (ps_expr (pe_appK (K := K) rfl (pv 4) (pa_cons (pe_callB (call_isiTK (K := K) rfl) (by rfl) ti PyProof.Rows.boot_isinstance (pa_cons (pv 5) (pa_cons (pe_tup (pa_cons (pe_cls rfl Z.m2) (pa_cons (pe_cls rfl Z.m1) (pa_cons (pe_cls rfl Z.m3) (pa_cons (pe_cls rfl Z.m5) (pa_cons (pe_cls rfl Z.m8) (pa_cons (pe_cls rfl Z.m9) pa_nil))))))) pa_nil))) pa_nil))))))
      (pss_one (ps_ret (pe_cmpR (op_eqR hr.units) (pv 4) (pe_lst (pa_cons (pe_cmpR op_eq (pv 3) pe_int (nomark _)) (pa_cons (pe_cmpR op_eq (pv 3) pe_int (nomark _)) (pa_cons (pe_cmpR op_eq (pv 3) pe_int (nomark _)) (pa_cons pe_bl (pa_cons pe_bl pa_nil)))))) (nomark _))))), ?_⟩
    refine seq_lst ⟨by show 0 ≤ sizeLine; decide, fun l0 n0 => ?_⟩
    have S0 := same_new (o := .lst []) n0
    have hl0 : upd H l0 (.lst []) l0 = some (.lst []) := upd_same
    generalize upd H l0 (.lst []) = H0 at S0 hl0
    refine seq_try (G := fun C σ1 H1 => OneKind K C0 C1 C2 C3 C4 C5 C6 C7 C8 C9 C d ∧ σ1 = [some x, some y, some (.int wide), some (.int (d : Int)), some (.ref l0), none] ∧ Same H H1) ?_ ?_
    · rintro C σ1 H1 ⟨Zk, rfl, S1⟩
      refine ⟨Zk.up, fun ea hea => ?_⟩
      have SE := same_new (o := .ext (ExcIs ea C)) hea
      have hE : (upd H1 ea (.ext (ExcIs ea C))) ea = some (.ext (ExcIs ea C)) := upd_same
      generalize upd H1 ea (.ext (ExcIs ea C)) = H2 at SE hE ⊢
      refine seq_lst ?_
      refine ⟨_, rfl, _, _, _, _, rfl, rfl, .exc hE Zk.cE, Zk.k7, ?_⟩
      refine ⟨_, rfl, _, _, _, _, rfl, rfl, .exc hE Zk.cE, Zk.k6, ?_⟩
      refine ⟨_, rfl, _, _, _, _, rfl, rfl, .exc hE Zk.cE, Zk.k4, ?_⟩
      refine ⟨_, rfl, _, _, _, _, rfl, rfl, .exc hE Zk.cE, Zk.kv, by show 4 ≤ sizeLine; decide, fun lk nk => ?_⟩
      have Sk := same_new (o := .lst [.bl (decide (d = 0)), .bl (decide (d = 1)), .bl (decide (d = 2)), .bl true]) nk
      have hK : (upd H2 lk (.lst [.bl (decide (d = 0)), .bl (decide (d = 1)), .bl (decide (d = 2)), .bl true])) lk = some (.lst [.bl (decide (d = 0)), .bl (decide (d = 1)), .bl (decide (d = 2)), .bl true]) := upd_same
      have hE3 := Sk _ _ hE
      generalize hH3 : upd H2 lk (.lst [.bl (decide (d = 0)), .bl (decide (d = 1)), .bl (decide (d = 2)), .bl true]) = H3 at Sk hK hE3 ⊢
      refine ⟨_, rfl, .inl ⟨rfl, _, SqL.of hK⟩, _, rfl, by show 6 ≤ sizeLine; decide, fun t1 nt1 => ?_⟩
      have St := same_new (o := .tup [.ref C2, .ref C1, .ref C3, .ref C5, .ref C8, .ref C9]) nt1
      refine ⟨_, _, _, _, _, rfl, SqT.of upd_same, rfl, .exc (St _ _ hE3) Zk.cE, Zk.kA, lk, _, _, rfl, rfl, St _ _ hK, by show 4 < sizeLine; decide, ?_⟩
      have S4 : Same H _ := same_upd (o := .lst (Fails d)) (S1.trans (SE.trans (Sk.trans St))) (S1.trans SE |>.free nk)
      have hl : upd (upd H3 t1 (.tup [.ref C2, .ref C1, .ref C3, .ref C5, .ref C8, .ref C9])) lk (.lst (Fails d)) lk = some (.lst (Fails d)) := upd_same
      rw [show [V.bl (decide (d = 0)), V.bl (decide (d = 1)), V.bl (decide (d = 2)), V.bl true] ++ [V.bl false] = Fails d from rfl]
      generalize upd (upd H3 t1 (.tup [.ref C2, .ref C1, .ref C3, .ref C5, .ref C8, .ref C9])) lk (.lst (Fails d)) = H5 at S4 hl ⊢
      dsimp only
      refine ⟨_, rfl, _, rfl, rfl, _, rfl, rfl, _, rfl, rfl, by show 5 ≤ sizeLine; decide, fun l3 n3 => ?_⟩
      have eL : [V.bl (decide (V.int (d : Int) = V.int 0)), V.bl (decide (V.int (d : Int) = V.int 1)), V.bl (decide (V.int (d : Int) = V.int 2)), V.bl true, V.bl false] = Fails d := by
        rcases (show d = 0 ∨ d = 1 ∨ d = 2 by omega) with rfl | rfl | rfl <;> rfl
      rw [eL]
      have S5 := same_new (o := .lst (Fails d)) n3
      have h3 : upd H5 l3 (.lst (Fails d)) l3 = some (.lst (Fails d)) := upd_same
      have hl := S5 _ _ hl
      generalize upd H5 l3 (.lst (Fails d)) = H6 at S5 h3 hl
      exact ⟨_, _, 1, _, rfl, rfl, eq_same hl h3 rfl, by decide, q H6 (S4.trans S5)⟩
    · intro Ec hE
      refine ⟨_, rfl, _, rfl, _, rfl, x, y, t, wide, rfl, hA.same S0, hz, ?_⟩
      rcases hR with ⟨rfl, n, a, xs, wss, P1, h1, h2, h3, h4, h5, h6, h7, h8⟩ | ⟨rfl, n, a, xs, bs, h1, h2, h3, h4, h5, h6, h7⟩ | ⟨rfl, h1⟩
      · exact .inl ⟨n, a, xs, wss, P1, h1, h2, h3, S0 _ _ h4, h5.same S0, h6, h7, h8, fun H' S' => ⟨C7, rfl, hE _ _ _ ⟨Z.kR, rfl, S0.trans S'⟩⟩⟩
      · exact .inr (.inl ⟨n, a, xs, bs, h1, h2, h3, S0 _ _ h4, h5.same S0, h6, h7, fun H' S' => ⟨C6, rfl, hE _ _ _ ⟨Z.kX, rfl, S0.trans S'⟩⟩⟩)
      · exact .inr (.inr (.inr ⟨h1, fun H' S' => ⟨C4, rfl, hE _ _ _ ⟨Z.kT, rfl, S0.trans S'⟩⟩⟩))
end
end JH
set_option Elab.async false
set_option linter.all false
set_option maxRecDepth 100000
namespace Sta
open Tre Lin
theorem low_ex {P : R} {w k : Nat} {o : Option Nat} (h : P w k) (l : Low P w o) : ∃ v, o = some v := by
  cases o with
  | none => exact (l k h).elim
  | some v => exact ⟨v, rfl⟩
end Sta
set_option Elab.async false
set_option linter.all false
set_option maxRecDepth 100000
namespace Sta
open PySem L2 Lin Tre
end Sta
set_option Elab.async false
set_option linter.all false
set_option maxRecDepth 100000
namespace Sta
open PySem L2 Lin Tre
def Tl (P : R) (c : Nat) : Prop := ∀ w h, P w h → P w c
def Tls : List R → List Nat → Prop
  | [], [] => True
  | P :: Ps, c :: cs => Tl P c ∧ Tls Ps cs
  | _, _ => False
theorem tl_bes {P Q : R} {c d : Nat} (u : Up P) (v : Up Q) (p : Tl P c) (q : Tl Q d) : Tl (bes P Q) (c + d) := fun w h ⟨a, b, e, x, y⟩ => ⟨a, b, e, u.up (p a h x) (Nat.le_refl _) (by omega), v.up (q b h y) (Nat.le_refl _) (by omega)⟩
theorem tl_dwn {P Q : R} {c d : Nat} (p : Tl P c) (q : Tl Q d) : Tl (dwn P Q) (c + d) := fun w h ⟨a, b, e, x, y⟩ => ⟨c, d, Nat.le_refl _, p w a x, q w b y⟩
theorem fold_tl {f : R → R → R} (hf : ∀ P Q, Up P → Up Q → Up (f P Q)) (hb : ∀ P Q M N, Up P → Up Q → Tl P M → Tl Q N → Tl (f P Q) (M + N)) : ∀ (Ps : List R) (Ms : List Nat) (P : R) (M : Nat), Up P → (∀ Q ∈ Ps, Up Q) → Tl P M → Tls Ps Ms → Tl (Ps.foldl f P) (M + Ms.sum)
  | [], [], P, M, _, _, b, _ => b
  | Q :: Ps, N :: Ms, P, M, u, us, b, ⟨bq, bs⟩ => by
    have := fold_tl hf hb Ps Ms (f P Q) (M + N) (hf P Q u (us Q List.mem_cons_self)) (fun U hU => us U (List.mem_cons_of_mem _ hU)) (hb P Q M N u (us Q List.mem_cons_self) b bq) bs
    rw [List.sum_cons, ← Nat.add_assoc]
    exact this
theorem sum40 : ∀ nss : List (List Int), (nss.map fun n => 40 * n.length).sum = 40 * nss.flatten.length
  | [] => rfl
  | n :: r => by
    rw [List.map_cons, List.sum_cons, sum40 r, List.flatten_cons, List.length_append]
    omega
mutual
theorem tall {wss : List (List W)} (h40 : ∀ ws ∈ wss, ws.length ≤ 40) (hU : ∀ L ∈ wss.map leafR, Up L) : ∀ {t : T} {n : List Int}, Good t n → ∀ {P : R}, HasR (wss.map leafR) t P → Tl P (40 * n.length)
  | _, _, .leaf i, P, hR => by
    cases hR with
    | leaf h0 h =>
      rw [List.getElem?_map] at h
      obtain ⟨ws, hw, rfl⟩ := Option.map_eq_some_iff.mp h
      intro w h ⟨a, b, c⟩
      have := h40 ws (List.mem_of_getElem? hw)
      have := cnt_le ws (w : Int)
      exact ⟨a, b, by show max 1 (cnt ws (w : Int)) ≤ 40 * 1; omega⟩
  | _, _, .node (ps := ps) (nss := nss) hk h2 hn hG, P, hR => by
    have s40 := sum40 nss
    cases hR with
    | bar h =>
      have := tallL h40 hU hG h
      have u := HasRL.up hU h
      cases nss with
      | nil => exact absurd this (by simp [Tls])
      | cons n0 r =>
        rw [List.map_cons, List.sum_cons] at s40
        rw [← s40]
        exact fold_tl (fun _ _ a b => bes_up a b) (fun _ _ _ _ a b c d => tl_bes a b c d) _ _ _ _ (u _ List.mem_cons_self) (fun Q hQ => u Q (List.mem_cons_of_mem _ hQ)) this.1 this.2
    | dash h =>
      have := tallL h40 hU hG h
      have u := HasRL.up hU h
      cases nss with
      | nil => exact absurd this (by simp [Tls])
      | cons n0 r =>
        rw [List.map_cons, List.sum_cons] at s40
        rw [← s40]
        exact fold_tl (fun _ _ a b => dwn_up a b) (fun _ _ _ _ _ _ c d => tl_dwn c d) _ _ _ _ (u _ List.mem_cons_self) (fun Q hQ => u Q (List.mem_cons_of_mem _ hQ)) this.1 this.2
theorem tallL {wss : List (List W)} (h40 : ∀ ws ∈ wss, ws.length ≤ 40) (hU : ∀ L ∈ wss.map leafR, Up L) : ∀ {ts : List T} {nss : List (List Int)}, GoodL ts nss → ∀ {Ps : List R}, HasRL (wss.map leafR) ts Ps → Tls Ps (nss.map fun n => 40 * n.length)
  | _, _, .nil, Ps, hR => by
    cases hR
    exact trivial
  | _, _, .cons h r, Ps, hR => by
    cases hR with
    | cons h' r' => exact ⟨tall h40 hU h h', tallL h40 hU r r'⟩
end
theorem least_big {P : R} (u : Up P) {c B : Nat} (tl : Tl P c) (cb : c ≤ B) {l : Nat} (low : Low (tr P) B (some l)) {w : Nat} (h : w < l) : Low P w none := fun k hk => by
  have := low.2 w (u.up (tl w k hk) (Nat.le_refl _) cb)
  omega
end Sta
set_option Elab.async false
set_option linter.all false
set_option maxRecDepth 100000
set_option maxHeartbeats 1000000
namespace L2
open PySem
theorem b_cU {X : Cx} {es : List Expr} {te : TE} {t : TA} {o : UnaryOp} {a : Expr} {c : Pos} (ha : Bx (PE X (.UnaryOp o a c) te)) (hr : Bx (PA X es t)) : Bx (PA X (.UnaryOp o a c :: es) (tCons te t)) := ⟨pa_cons ha.get hr.get rfl⟩
theorem b_setIx {X : Cx} {es : List Expr} {t : TA} {i j : Nat} {x y : Str} {p pos pos' p2 p3 p4 : Pos} {b : Expr} {tb : TE} (hN : X.N.Nodup) (hi : X.N[i]? = some x) (hx : Loc X.env.scope x) (hv : PE X (.Name y p3) (tVar j)) (he : Bx (PA X es t)) (hb : PE X b tb) (hp : PlainIx b) (hs : swapsWith (.Subscript (.BinOp (.Name y p3) .Add (.List es p) p2) b p4) (some (.Name x pos')) pos.line X.env = pure false) (hf : X.fn x = true ∨ X.env.scope.names.lookup x = some .local) :
    Bx (PS X (.Assign [.Name x pos'] (.Subscript (.BinOp (.Name y p3) .Add (.List es p) p2) b p4) pos) (tAsg (tOp (rIxL X.K) (tOp rCat (tVar j) (tLst t)) tb) (gName i))) := ⟨ps_set hN hi hx (pe_ix ix_list (pe_op op_cat hv (pe_lst he.get)) hb hp) hs hf⟩
end L2
namespace JH
open PySem L2 Lin Tre PySem.W
open Sta (R HasR Low)
theorem seq_via {t u : TS} {D : Ends} {σ : St} {H : Hp} (G : St → Hp → Prop) (a : ∀ N : St → Hp → Prop, (∀ σ H, G σ H → N σ H) → t { D with nx := N } σ H) (b : ∀ σ H, G σ H → u D σ H) : tSeq t u D σ H := a (u D) b
def Te (t : T) (te : TE) (σ : St) (H0 : Hp) : Prop := ∀ (H : Hp) (Q : VK), Same H0 H → (∀ v H', Same H H' → At H' v t → Q v H') → te σ H Q
def TeL (ts : List T) (ta : TA) (σ : St) (H0 : Hp) : Prop := ∀ (H : Hp) (Q : List V → Hp → Prop), Same H0 H → (∀ vs H', Same H H' → AtL H' vs ts → Q vs H') → ta σ H Q
section
variable {σ : St} {H0 : Hp} {te : TE} {ta : TA} {t : T} {ts : List T}
theorem te_c {v : V} (h : ∀ H, At H v t) : Te t (tC v) σ H0 := fun H Q _ q => q v H (Same.refl _) (h H)
theorem te_neg {i : Int} : Te (.int (-i)) (tUn (rU fun i => V.int (-i)) (tC (V.int i))) σ H0 := fun H Q _ q => ⟨i, rfl, q _ H (Same.refl _) (.int _)⟩
theorem te_dic : Te .dic tDNewK σ H0 := fun H Q _ q => fun p np => q (.ref p) _ (same_new np) (.dic upd_same)
theorem tel_nil : TeL [] tNil σ H0 := fun H Q _ q => q [] H (Same.refl _) .nil
theorem tel_cons (h : Te t te σ H0) (r : TeL ts ta σ H0) : TeL (t :: ts) (tCons te ta) σ H0 := fun H Q S q =>
  h H _ S fun v H1 S1 a1 => r H1 _ (S.trans S1) fun vs H2 S2 a2 => q (v :: vs) H2 (S1.trans S2) (.cons (a1.same S2) a2)
theorem te_tup (h : TeL ts ta σ H0) (hn : ts.length ≤ 100) : Te (.tup ts) (tTup ta) σ H0 := fun H Q S q =>
  h H _ S fun vs H1 S1 a1 => ⟨Nat.le_trans (show vs.length ≤ 100 by rw [a1.len]; exact hn) (by decide), fun p np => q (.ref p) _ (S1.trans (same_new np)) (.tup upd_same (a1.same (same_new np)))⟩
theorem te_lst (h : TeL ts ta σ H0) (hn : ts.length ≤ 100) : Te .lst (tLst ta) σ H0 := fun H Q S q =>
  h H _ S fun vs H1 S1 a1 => ⟨Nat.le_trans (show vs.length ≤ 100 by rw [a1.len]; exact hn) (by decide), fun p np => q (.ref p) _ (S1.trans (same_new np)) (.lst upd_same)⟩
end
theorem go_te {D : Ends} {i : Nat} {u : TS} {σ : St} {H0 H : Hp} {ta : TA} {ts : List T} (t : TeL ts ta σ H0) (S : Same H0 H) (hn : ts.length ≤ 100)
    (k : ∀ l vs H', Same H H' → H' l = some (.lst vs) → AtL H' vs ts → u D (σ.set i (some (.ref l))) H') : tSeq (tAsg (tLst ta) (gName i)) u D σ H :=
  t H _ S fun vs H1 S1 a1 => ⟨Nat.le_trans (show vs.length ≤ 100 by rw [a1.len]; exact hn) (by decide), fun p np => k p vs _ (S1.trans (same_new np)) upd_same (a1.same (same_new np))⟩
theorem go_tw {K : PySem.W.Frag} {D : Ends} {i j : Nat} {u : TS} {σ : St} {H0 H : Hp} {ta : TA} {tm : TE} {ts ts0 : List T} {l0 : Addr} {us0 : List V} {c : Int} (e : σ[j]? = some (some (.ref l0))) (h0 : H l0 = some (.lst us0)) (a0 : AtL H us0 ts0) (t : TeL ts ta σ H0) (S : Same H0 H) (hn : (ts0 ++ ts).length ≤ 100) (hm : ∀ H Q, Q (.int c) H → tm σ H Q) (c0 : 0 ≤ c) (c1 : c < ((ts0 ++ ts).length : Nat))
    (k : ∀ v tw H', Same H H' → At H' v tw → tw ∈ ts0 ++ ts → u D (σ.set i (some v)) H') : tSeq (tAsg (tOp (rIxL K) (tOp rCat (tVar j) (tLst ta)) tm) (gName i)) u D σ H :=
  ⟨_, e, t H _ S fun vs H1 S1 a1 => by
    have l1 := a0.len
    have l2 := a1.len
    rw [List.length_append] at hn
    refine ⟨Nat.le_trans (show vs.length ≤ 100 by omega) (by decide), fun p np => ⟨l0, p, us0, vs, rfl, rfl, same_new np _ _ (S1 _ _ h0), upd_same, Nat.le_trans (show us0.length + vs.length ≤ 200 by omega) (by decide), fun r nr => hm _ _ ?_⟩⟩
    have S2 := (same_new (o := .lst vs) np).trans (same_new (o := .lst (us0 ++ vs)) nr)
    have hv := (a0.same (S1.trans S2)).app (a1.same S2)
    obtain ⟨n, rfl⟩ := Int.eq_ofNat_of_zero_le c0
    have ln : n < (us0 ++ vs).length := by rw [List.length_append] at c1 ⊢; omega
    obtain ⟨tw, et, hA⟩ := hv.get (List.getElem?_eq_getElem ln)
    exact ⟨r, us0 ++ vs, n, _, rfl, rfl, SqL.of upd_same, atI_nat (List.getElem?_eq_getElem ln), k _ tw _ (S1.trans S2) hA (List.mem_of_getElem? et)⟩⟩
def ten : List T := [.non, .bl true, .str "0", .int 1, .int (-1), .tup [.str bar, .tup [.int 0]], .tup [.str bar, .tup [.int 0, .int 0]], .tup [.str dash, .lst], .lst, .tup [.str "+", .tup [.int 0, .int 1]]]
def four : List T := [.tup [.str bar, .tup [.int 0, .int 2]], .tup [.str bar, .tup [.tup [.str bar, .tup [.int 0, .int 1]], .int 2]], .tup [], .dic]
theorem no_num {i : Int} (h : i ≠ 0) : ¬ IsTree (.int i) := fun ⟨n, g, _, p⟩ => by
  cases g
  have := p.mem_iff.mp List.mem_cons_self
  rw [show up [i].length = [0] from rfl] at this
  exact h (List.mem_singleton.mp this)
theorem no_two {i j k : Int} (hk : k ∈ up 2) (h : k ∉ [i, j]) : ¬ IsTree (.tup [.str bar, .tup [.int i, .int j]]) := fun ⟨n, g, _, p⟩ => by
  have g' : Good (.tup [.str bar, .tup [.int i, .int j]]) [i, j] := .node (nss := [[i], [j]]) (.inl rfl) (Nat.le_refl 2) (fun p hp ⟨_, e⟩ => by
    rcases List.mem_cons.mp hp with z | z
    · rw [z] at e; cases e
    · rw [List.mem_singleton.mp z] at e; cases e) (.cons (.leaf i) (.cons (.leaf j) .nil))
  have e := Good.uniq g g'
  subst e
  exact h (p.mem_iff.mpr hk)
theorem wrong_all : ∀ t ∈ ten ++ four, ¬ IsTree t ∧ sz t ≤ 100 := by
  intro t ht
  have z : ∀ {P : T → Prop} {a : T} {r : List T}, t ∈ a :: r → P a → (t ∈ r → P t) → P t := fun h pa k => (List.mem_cons.mp h).elim (fun e => by rw [e]; exact pa) k
  unfold ten four at ht
  refine z (P := fun t => ¬ IsTree t ∧ sz t ≤ 100) ht ⟨fun ⟨n, g, _⟩ => (by cases g), by decide⟩ fun ht => ?_
  refine z (P := fun t => ¬ IsTree t ∧ sz t ≤ 100) ht ⟨fun ⟨n, g, _⟩ => (by cases g), by decide⟩ fun ht => ?_
  refine z (P := fun t => ¬ IsTree t ∧ sz t ≤ 100) ht ⟨fun ⟨n, g, _⟩ => (by cases g), by decide⟩ fun ht => ?_
  refine z (P := fun t => ¬ IsTree t ∧ sz t ≤ 100) ht ⟨no_num (by decide), by decide⟩ fun ht => ?_
  refine z (P := fun t => ¬ IsTree t ∧ sz t ≤ 100) ht ⟨no_num (by decide), by decide⟩ fun ht => ?_
  refine z (P := fun t => ¬ IsTree t ∧ sz t ≤ 100) ht ⟨fun ⟨n, g, _⟩ => (by cases g with | node hk h2 => exact absurd h2 (by decide)), by decide⟩ fun ht => ?_
  refine z (P := fun t => ¬ IsTree t ∧ sz t ≤ 100) ht ⟨no_two (k := 1) (by decide) (by decide), by decide⟩ fun ht => ?_
  refine z (P := fun t => ¬ IsTree t ∧ sz t ≤ 100) ht ⟨fun ⟨n, g, _⟩ => (by cases g), by decide⟩ fun ht => ?_
  refine z (P := fun t => ¬ IsTree t ∧ sz t ≤ 100) ht ⟨fun ⟨n, g, _⟩ => (by cases g), by decide⟩ fun ht => ?_
  refine z (P := fun t => ¬ IsTree t ∧ sz t ≤ 100) ht ⟨fun ⟨n, g, _⟩ => (by cases g with | node hk h2 => exact absurd hk (by rintro (e | e) <;> exact absurd e (by decide +kernel))), by decide⟩ fun ht => ?_
  refine z (P := fun t => ¬ IsTree t ∧ sz t ≤ 100) ht ⟨no_two (k := 1) (by decide) (by decide), by decide⟩ fun ht => ?_
  refine z (P := fun t => ¬ IsTree t ∧ sz t ≤ 100) ht ⟨fun ⟨n, g, _⟩ => (by cases g with | node hk h2 hn => exact hn _ List.mem_cons_self ⟨_, rfl⟩), by decide⟩ fun ht => ?_
  refine z (P := fun t => ¬ IsTree t ∧ sz t ≤ 100) ht ⟨fun ⟨n, g, _⟩ => (by cases g), by decide⟩ fun ht => ?_
  refine z (P := fun t => ¬ IsTree t ∧ sz t ≤ 100) ht ⟨fun ⟨n, g, _⟩ => (by cases g), by decide⟩ fun ht => ?_
  exact absurd ht List.not_mem_nil
def spLaw (K : PySem.W.Frag) : Sp := fun vs H Q _ => ∃ (a : Addr) (ns : List Int), vs = [.ref a] ∧ SqL K H a (ns.map V.int) ∧ ns.length ≤ 63 ∧ ∀ H', Q (.bl true) H'
section
variable {P : Program} {w : World} {K : PySem.W.Frag} {mg : Str → Option Value} {base : Heap} {kA : Addr}
theorem scLaw69 : FnScope ["script", "tree", "texts", "handed", "far", "widths", "least", "wide", "bad", "cell", "some", "wrong"] ["script"] (defScope sLaw) := ⟨rfl, rfl, rfl, by decide +kernel, rfl, by decide +kernel, by decide +kernel⟩
theorem ok_law {f fTr fTx fCo fCe fLv fRf fBd C4 C6 : Addr} {fd dTr dTx dCo dCe dLv dRf dBd : FuncData} (F : Fun K "law" "law" sLaw f fd) (tlist : mg "list" = none) (Tr : Callee P w K mg base CX0 26 "_law_tree" fTr dTr ["script", "first", "most"] (spTre K)) (Tx : Callee P w K mg base CX0 3 "_law_texts" fTx dTx ["script", "many"] (spTx69 K))
    (Co : Callee P w K mg base CX0 25 "_law_count" fCo dCo ["shape"] (spCount 24)) (Ce : Callee P w K mg base CX0 2 "_law_cell" fCe dCe ["script", "k"] (spCell K)) (Lv : Callee P w K mg base (CXE P w) 29 "least_wide" fLv dLv ["tree", "texts", "high"] (spLwide C4 C6))
    (Rf : Callee P w K mg base CX0 32 "_law_refused" fRf dRf ["tree", "texts", "wide", "way"] spRfd) (Bd : Callee P w K mg base CX0 1 "_law_bad" fBd dBd ["texts", "cell"] spBadT) : FnOk P w K mg base CX0 33 f fd ["script"] (spLaw K) := by
  refine F.ok scLaw69 (fun vs H Q E h => ?_) (fun cdv A outer s H vs Q E hr h => ?_)
  · obtain ⟨a, ns, rfl, _⟩ := h
    rfl
  · obtain ⟨a, ns, rfl, hS, h63, q⟩ := h
    refine' ⟨?uu, ?hb, ?_⟩
    case hb =>
      suffices z : L2.Bx (PSs _ _ ?uu) by
        cases z with
        | mk h => exact h
      refine' (b_cons ?s0 (b_cons ?s1 (b_cons ?s2 (b_cons ?s3 (b_cons ?s4 (b_cons ?s5 (b_cons ?s6 (b_cons ?s7 (b_cons ?s8 (b_cons ?s9 (b_cons ?s10 (b_cons ?s11 (b_cons ?s12 (b_cons ?s13 ?s14))))))))))))))
      case s0 => exact ⟨(ps_set (i := 1) scLaw69.nd rfl (Or.inl rfl) (pe_call Tr.ok (hr.mono (show 26 ≤ 32 by decide)) rfl Tr.bound Tr.kp Tr.bd .nil pass0 (pa_cons (pv 0) (pa_cons pe_int (pa_cons (pe_ix ix_list (pe_lst (pa_cons pe_int (pa_cons pe_int (pa_cons pe_int (pa_cons pe_int pa_nil))))) (pe_op op_mod (pe_call Ce.ok (hr.mono (show 2 ≤ 32 by decide)) rfl Ce.bound Ce.kp Ce.bd .nil pass0 (pa_cons (pv 0) (pa_cons pe_int pa_nil))) pe_int) (fun _ _ => rfl)) pa_nil)))))⟩
      case s1 => exact ⟨(ps_set (i := 2) scLaw69.nd rfl (Or.inl rfl) (pe_call Tx.ok (hr.mono (show 3 ≤ 32 by decide)) rfl Tx.bound Tx.kp Tx.bd .nil pass0 (pa_cons (pv 0) (pa_cons (pe_call Co.ok (hr.mono (show 25 ≤ 32 by decide)) rfl Co.bound Co.kp Co.bd .nil pass0 (pa_cons (pv 1) pa_nil)) pa_nil))))⟩
      case s2 => exact ⟨(ps_comp (i := 3) (Nc := ["words"]) (ix := [none]) scLaw69.nd rfl (Or.inl rfl) rfl rfl (by refine' pi_list ?zz; case zz => exact (pv 2)) (fun _ _ _ _ _ => (pg_name (i := 0) (by show (["words"] : List Str).Nodup; decide +kernel) rfl (Or.inl rfl))) (fun _ _ _ _ _ => pts_nil) (fun _ _ _ _ _ => (pe_callTy (call_list_ofK (K := K) rfl) rfl tlist PyProof.Rows.boot_list (pa_cons (pv 0) pa_nil))))⟩
      case s3 => exact ⟨(ps_set (i := 4) scLaw69.nd rfl (Or.inl rfl) (pe_op op_mod (pe_call Ce.ok (hr.mono (show 2 ≤ 32 by decide)) rfl Ce.bound Ce.kp Ce.bd .nil pass0 (pa_cons (pv 0) (pa_cons pe_int pa_nil))) (pe_op op_pow pe_int pe_int)))⟩
      case s4 => exact ⟨(ps_set (i := 5) scLaw69.nd rfl (Or.inl rfl) (pe_lst (pa_cons pe_int (pa_cons (pe_op op_sub (pe_un un_neg pe_int) (pv 4)) (pa_cons pe_int (pa_cons (pe_op op_add pe_int (pv 4)) pa_nil))))))⟩
      case s5 => exact ⟨(ps_set (i := 6) scLaw69.nd rfl (Or.inl rfl) (pe_call Lv.ok (hr.mono (show 29 ≤ 32 by decide)) rfl Lv.bound Lv.kp Lv.bd .nil passE0 (pa_cons (pv 1) (pa_cons (pv 2) (pa_cons pe_int pa_nil)))))⟩
      case s6 => exact ⟨(ps_if (pt_cmpR op_gt (pv 6) pe_int (nomark _))
        (pss_cons (ps_expr (pe_bm PySem.F.plainAttrs_list PySem.F.slot_list_append PySem.F.type_list_append mt_append (pv 5) (pa_cons (pe_op op_sub (pv 6) pe_int) pa_nil)))
          (pss_one (ps_expr (pe_bm PySem.F.plainAttrs_list PySem.F.slot_list_append PySem.F.type_list_append mt_append (pv 5) (pa_cons (pe_op op_add pe_int (pe_op op_mod (pv 4) (pe_op op_sub (pv 6) pe_int))) pa_nil)))))
        pss_nil)⟩
      case s7 => exact ⟨(ps_for PassesOwn.never rfl (pi_list (pv 5)) (pg_name (i := 7) scLaw69.nd rfl (Or.inl rfl))
        (pss_one (ps_if (pt_not (pt_val (pe_call Rf.ok hr rfl Rf.bound Rf.kp Rf.bd .nil pass0 (pa_cons (pv 1) (pa_cons (pv 3) (pa_cons (pv 7) (pa_cons pe_int pa_nil)))))))
          (pss_one (ps_ret pe_bl))
          pss_nil)))⟩
      case s8 => exact ⟨(ps_set (i := 8) scLaw69.nd rfl (Or.inl rfl) (pe_call Bd.ok (hr.mono (show 1 ≤ 32 by decide)) rfl Bd.bound Bd.kp Bd.bd .nil pass0 (pa_cons (pv 2) (pa_cons (pe_call Ce.ok (hr.mono (show 2 ≤ 32 by decide)) rfl Ce.bound Ce.kp Ce.bd .nil pass0 (pa_cons (pv 0) (pa_cons pe_int pa_nil))) pa_nil))))⟩
      case s9 => exact ⟨(ps_for PassesOwn.never rfl (pi_list (pe_op op_cat (pv 5) (pe_lst (pa_cons (pv 6) (pa_cons pe_int pa_nil))))) (pg_name (i := 7) scLaw69.nd rfl (Or.inl rfl))
        (pss_one (ps_if (pt_not (pt_val (pe_call Rf.ok hr rfl Rf.bound Rf.kp Rf.bd .nil pass0 (pa_cons (pv 1) (pa_cons (pv 8) (pa_cons (pv 7) (pa_cons pe_int pa_nil)))))))
          (pss_one (ps_ret pe_bl))
          pss_nil)))⟩
      case s10 => exact ⟨(ps_set (i := 9) scLaw69.nd rfl (Or.inl rfl) (pe_op op_fdiv (pe_call Ce.ok (hr.mono (show 2 ≤ 32 by decide)) rfl Ce.bound Ce.kp Ce.bd .nil pass0 (pa_cons (pv 0) (pa_cons pe_int pa_nil))) pe_int))⟩
      case s11 => exact b_setL (i := 10) scLaw69.nd rfl (Or.inl rfl) (b_cC ⟨pe_non⟩ (b_cC ⟨pe_bl⟩ (b_cC ⟨pe_str⟩ (b_cC ⟨pe_int⟩ (b_cU ⟨pe_un un_neg pe_int⟩ (b_cT (b_tup (b_cC ⟨pe_str⟩ (b_cT (b_tup (b_cC ⟨pe_int⟩ b_nil)) b_nil))) (b_cT (b_tup (b_cC ⟨pe_str⟩ (b_cT (b_tup (b_cC ⟨pe_int⟩ (b_cC ⟨pe_int⟩ b_nil))) b_nil))) (b_cT (b_tup (b_cC ⟨pe_str⟩ (b_cL (b_lst (b_cC ⟨pe_int⟩ (b_cC ⟨pe_int⟩ b_nil))) b_nil))) (b_cL (b_lst (b_cC ⟨pe_str⟩ (b_cT (b_tup (b_cC ⟨pe_int⟩ (b_cC ⟨pe_int⟩ b_nil))) b_nil))) (b_cT (b_tup (b_cC ⟨pe_str⟩ (b_cT (b_tup (b_cC ⟨pe_int⟩ (b_cC ⟨pe_int⟩ b_nil))) b_nil))) b_nil)))))))))) (Or.inr rfl)
      case s12 => exact b_setIx (i := 11) (j := 10) scLaw69.nd rfl (Or.inl rfl) (pv 10) (b_cT (b_tup (b_cC ⟨pe_str⟩ (b_cT (b_tup (b_cC ⟨pe_int⟩ (b_cC ⟨pe_int⟩ b_nil))) b_nil))) (b_cT (b_tup (b_cC ⟨pe_str⟩ (b_cT (b_tup (b_cT (b_tup (b_cC ⟨pe_str⟩ (b_cT (b_tup (b_cC ⟨pe_int⟩ (b_cC ⟨pe_int⟩ b_nil))) b_nil))) (b_cC ⟨pe_int⟩ b_nil))) b_nil))) (b_cT (b_tup b_nil) (b_cD ⟨pe_dnewK⟩ b_nil)))) (pe_op op_mod (pv 9) pe_int) (fun _ _ => rfl) rfl (Or.inr rfl)
      case s13 => exact ⟨(ps_for PassesOwn.never rfl (pi_list (pe_op op_cat (pv 5) (pe_lst (pa_cons (pv 6) pa_nil)))) (pg_name (i := 7) scLaw69.nd rfl (Or.inl rfl))
        (pss_one (ps_if (PW.pt (pw_or (pt_not (pt_val (pe_call Rf.ok hr rfl Rf.bound Rf.kp Rf.bd .nil pass0 (pa_cons (pv 11) (pa_cons (pv 2) (pa_cons (pv 7) (pa_cons pe_int pa_nil))))))) (pw_or1 (pt_not (pt_val (pe_call Rf.ok hr rfl Rf.bound Rf.kp Rf.bd .nil pass0 (pa_cons (pv 11) (pa_cons (pv 8) (pa_cons (pv 7) (pa_cons pe_int pa_nil))))))))))
          (pss_one (ps_ret pe_bl))
          pss_nil)))⟩
      case s14 => exact ⟨pss_one (ps_ret (pe_cmpR (op_eqR hr.units) (pv 3) (pv 2) (nomark _)))⟩
    -- the tree
    refine ⟨_, rfl, by show 4 ≤ sizeLine; decide, fun pz npz => ?_⟩
    have S1 := same_new (o := .lst [V.int 24, V.int 24, V.int 6, V.int 2]) npz
    have hpz : (upd H pz (.lst [V.int 24, V.int 24, V.int 6, V.int 2])) pz = some (.lst [V.int 24, V.int 24, V.int 6, V.int 2]) := upd_same
    generalize upd H pz (.lst [V.int 24, V.int 24, V.int 6, V.int 2]) = H1 at S1 hpz
    refine ⟨_, rfl, a, ns, 2, rfl, S1.seq hS, by decide, by decide, fun c2 => ?_⟩
    obtain ⟨mo, hmo, mo2, mo24⟩ : ∃ mo : Nat, atI [V.int 24, V.int 24, V.int 6, V.int 2] (c2 % 4) = some (.int (mo : Int)) ∧ 2 ≤ mo ∧ mo ≤ 24 := by
      rcases (show c2 % 4 = 0 ∨ c2 % 4 = 1 ∨ c2 % 4 = 2 ∨ c2 % 4 = 3 by omega) with e | e | e | e <;> rw [e]
      · exact ⟨24, rfl, by decide, by decide⟩
      · exact ⟨24, rfl, by decide, by decide⟩
      · exact ⟨6, rfl, by decide, by decide⟩
      · exact ⟨2, rfl, by decide, by decide⟩
    refine ⟨_, _, rfl, rfl, (by show (0 : Int) < 4; decide), pz, _, _, _, rfl, rfl, SqL.of hpz, hmo, a, ns, 5, mo, rfl, S1.seq hS, h63, by decide, mo2, mo24, fun x t n H2 S2 hA g pm n24 => ?_⟩
    have S12 := S1.trans S2
    refine run_gname ?_
    try dsimp only
    -- the texts
    have gsz := g.szN
    refine ⟨_, rfl, _, rfl, x, t, n.length, rfl, hA, Shp.good_cn g, by omega, by decide, fun H3 S3 => ⟨a, ns, n.length, rfl, (S12.trans S3).seq hS, n24, fun lt us wss H4 S4 nlt hlt hT lw _ => ?_⟩⟩
    have S04 := (S12.trans S3).trans S4
    refine run_gname ?_
    try dsimp only
    have pm' : n.Perm (up wss.length) := by rw [lw]; exact pm
    have iT : IsTree t := ⟨n, g, n24, pm⟩
    have hA4 := hA.same (S3.trans S4)
    have lu := hT.len
    have rng : ∀ i ∈ n, 0 ≤ i ∧ i < ((Lvs wss).length : Int) := fun i hi => by
      have := pm'.mem_iff.mp hi
      unfold up at this
      obtain ⟨j, hj, rfl⟩ := List.mem_map.mp this
      have := List.mem_range.mp hj
      unfold Lvs
      rw [List.length_map]
      omega
    obtain ⟨P1, hR⟩ := Sta.hasR_of (Ls := Lvs wss) g rng
    have hU := leaves_up wss
    have hup := HasR.up hU hR
    have n1 : 1 ≤ n.length := by
      have := gsz
      have := sz_pos t
      omega
    -- handed
    refine ⟨_, rfl, lt, rfl, ⟨_, SqL.of hlt⟩, cmp_list (K := K) (a := lt) (xs := us) (fun i ys σ H5 => Txs H5 ys (wss.take i) ∧ Same H4 H5 ∧ ∃ o, σ = [o]) ⟨.nil, Same.refl _, none, rfl⟩
      (fun i ys σ H5 hi ⟨e, S, _⟩ => ⟨by rw [e.len, List.length_take]; exact Nat.le_trans (show _ ≤ 1000 by omega) (by decide), SqL.of (S _ _ hlt)⟩) ?_ ?_⟩
    case refine_2 =>
      rintro i y ys σ H5 hy ⟨hY, S5, o, rfl⟩
      obtain ⟨ws, ew, pa, rfl, hpa, hw, h40⟩ := hT.get hy
      obtain ⟨hil, ev⟩ := List.getElem?_eq_some_iff.mp ew
      dsimp only [gName, tYes]
      refine iteT ⟨_, rfl, pa, _, rfl, .inl (SqL.of (S5 _ _ hpa)), fun p1 np1 => ?_⟩
      have S6 := same_new (o := .lst (tx ws)) np1
      refine ⟨?_, S5.trans S6, _, rfl⟩
      rw [← List.take_append_getElem hil, ev]
      exact (hY.same S6).snoc ⟨p1, rfl, upd_same, hw, h40⟩
    rintro ys σ H5 ⟨hY, S5, _⟩ lh nlh
    rw [lu, List.take_length] at hY
    have S6 := S5.trans (same_new (o := .lst ys) nlh)
    have hlh : (upd H5 lh (.lst ys)) lh = some (.lst ys) := upd_same
    have hY6 := hY.same (same_new (o := .lst ys) nlh)
    generalize upd H5 lh (.lst ys) = H6 at S6 hlh hY6
    have lys := hY6.len
    have hlt6 := S6 _ _ hlt
    have hT6 := hT.same S6
    have hA6 := hA4.same S6
    have S06 := S04.trans S6
    refine run_gname ?_
    try dsimp only
    -- far
    refine ⟨_, rfl, a, ns, 3, rfl, S06.seq hS, by decide, by decide, fun c3 => ⟨10, 30, rfl, rfl, ⟨by decide, by decide, by decide⟩, _, _, rfl, rfl, (by show (0 : Int) < 10 ^ 30; decide), ?_⟩⟩
    have f0 := Int.emod_nonneg c3 (show (10 : Int) ^ (30 : Int).toNat ≠ 0 by decide)
    refine run_gname ?_
    try dsimp only
    generalize c3 % (10 : Int) ^ (30 : Int).toNat = far at f0 ⊢
    -- widths
    refine seq_lst ⟨1, rfl, _, rfl, _, _, rfl, rfl, _, rfl, _, _, rfl, rfl, by show 4 ≤ sizeLine; decide, fun lw' nlw => ?_⟩
    try dsimp only
    have S7 := same_new (o := .lst [V.int 0, V.int (-1 - far), V.int 401, V.int (401 + far)]) nlw
    have hlw : upd H6 lw' (.lst [V.int 0, V.int (-1 - far), V.int 401, V.int (401 + far)]) lw' = some (.lst (([0, -1 - far, 401, 401 + far] : List Int).map V.int)) := upd_same
    generalize upd H6 lw' (.lst [V.int 0, V.int (-1 - far), V.int 401, V.int (401 + far)]) = H7 at S7 hlw
    -- the least width
    refine ⟨_, rfl, _, rfl, x, .ref lt, t, 50000, rfl, hA6.same S7, by omega, .inl ⟨n, lt, us, wss, iT, g, rfl, S7 _ _ hlt6, hT6.same S7, by rw [lu, lw], fun P2 o H8 hR2 S8 low => ?_⟩⟩
    obtain rfl := Sta.hasR_uniq hR2 hR
    have tl : Sta.Tl P2 (40 * n.length) := Sta.tall hT.ok40 hU g hR
    obtain ⟨w1, k1, p1⟩ := HasR.nem hU (fun L hL => by
      obtain ⟨ws, _, rfl⟩ := List.mem_map.mp hL
      exact Sta.nem_leaf ws) hR
    obtain ⟨l0, rfl⟩ := Sta.low_ex (P := Sta.tr P2) (w := 50000) (k := w1) (hup.up (tl w1 k1 p1) (Nat.le_refl _) (by omega)) low
    have small : ∀ w : Nat, w < l0 → Low P2 w none := fun w h => Sta.least_big hup tl (by omega) low h
    have hlw8 := S8 _ _ hlw
    have S68 := S7.trans S8
    refine run_gname ?_
    rw [show oV (some l0) = V.int ((l0 : Nat) : Int) from rfl]
    try dsimp only
    have base4 : ∀ z ∈ ([0, -1 - far, 401, 401 + far] : List Int), z < 1 ∨ 400 < z ∨ Low P2 z.toNat none := fun z hz => by
      rcases List.mem_cons.mp hz with e | hz
      · exact .inl (by omega)
      rcases List.mem_cons.mp hz with e | hz
      · exact .inl (by omega)
      rcases List.mem_cons.mp hz with e | hz
      · exact .inr (.inl (by omega))
      · have := List.mem_singleton.mp hz
        exact .inr (.inl (by omega))
    refine seq_via (G := fun σ' H' => ∃ wl : List Int, σ' = [some (.ref a), some x, some (.ref lt), some (.ref lh), some (.int far), some (.ref lw'), some (.int ((l0 : Nat) : Int)), none, none, none, none, none] ∧ Same H6 H' ∧ H' lw' = some (.lst (wl.map V.int)) ∧ (∀ z ∈ wl, z < 1 ∨ 400 < z ∨ Low P2 z.toNat none) ∧ wl.length ≤ 10) (fun N kk => ?_) ?_
    · refine tst_if (p := (1 : Int) < ((l0 : Nat) : Int)) (tst_of (evl_I0 (evl_var rfl) evl_c)) (fun c => ?_) (fun _ => ?_)
      · refine ⟨_, rfl, .inl ⟨rfl, _, SqL.of hlw8⟩, _, rfl, _, _, rfl, rfl, lw', _, _, rfl, rfl, hlw8, by show 4 < sizeLine; decide, ?_⟩
        have S9 := same_upd (o := .lst (([0, -1 - far, 401, 401 + far] : List Int).map V.int ++ [V.int (((l0 : Nat) : Int) - 1)])) S68 nlw
        have h9 : upd H8 lw' (.lst (([0, -1 - far, 401, 401 + far] : List Int).map V.int ++ [V.int (((l0 : Nat) : Int) - 1)])) lw' = some (.lst (([0, -1 - far, 401, 401 + far, ((l0 : Nat) : Int) - 1] : List Int).map V.int)) := upd_same
        try dsimp only
        generalize upd H8 lw' (.lst (([0, -1 - far, 401, 401 + far] : List Int).map V.int ++ [V.int (((l0 : Nat) : Int) - 1)])) = H9 at S9 h9
        refine ⟨_, rfl, .inl ⟨rfl, _, SqL.of h9⟩, _, rfl, _, rfl, _, _, rfl, rfl, _, _, rfl, rfl, (by show (0 : Int) < ((l0 : Nat) : Int) - 1; omega), _, _, rfl, rfl, lw', _, _, rfl, rfl, h9, by show 5 < sizeLine; decide, ?_⟩
        have g0 := Int.emod_nonneg far (show ((l0 : Nat) : Int) - 1 ≠ 0 by omega)
        have g1 := Int.emod_lt_of_pos far (show 0 < ((l0 : Nat) : Int) - 1 by omega)
        refine kk _ _ ⟨[0, -1 - far, 401, 401 + far, ((l0 : Nat) : Int) - 1, 1 + far % (((l0 : Nat) : Int) - 1)], rfl, same_upd S9 nlw, upd_same, fun z hz => ?_, by show 6 ≤ 10; decide⟩
        rcases List.mem_append.mp (show z ∈ [0, -1 - far, 401, 401 + far] ++ [((l0 : Nat) : Int) - 1, 1 + far % (((l0 : Nat) : Int) - 1)] from hz) with e | e
        · exact base4 z e
        · refine .inr (.inr (small _ ?_))
          rcases List.mem_cons.mp e with e | e
          · omega
          · have := List.mem_singleton.mp e
            omega
      · exact kk _ _ ⟨_, rfl, S68, hlw8, base4, by show 4 ≤ 10; decide⟩
    rintro σ' H9 ⟨wl, rfl, S69, hlw9, hwl, lwl⟩
    try dsimp only
    have hA9 := hA6.same S69
    have hlh9 := S69 _ _ hlh
    have hY9 := hY6.same S69
    have hlt9 := S69 _ _ hlt6
    have hT9 := hT6.same S69
    have S09 := S06.trans S69
    -- widths without room
    refine run_seq (t := _) ?_
    refine ⟨_, rfl, lw', rfl, ⟨_, SqL.of hlw9⟩, ?_⟩
    refine for_list (K := K) (a := lw') (xs := wl.map V.int) (fun i σ H' => ∃ o7 : Option V, σ = [some (.ref a), some x, some (.ref lt), some (.ref lh), some (.int far), some (.ref lw'), some (.int ((l0 : Nat) : Int)), o7, none, none, none, none] ∧ Same H9 H') ⟨none, rfl, Same.refl _⟩ (fun i σ H' _ ⟨_, _, S⟩ => SqL.of (S _ _ hlw9)) ?_ ?_
    · rintro i v σ H10 hi ⟨o7, rfl, S10⟩
      rw [List.getElem?_map] at hi
      obtain ⟨z, hz, rfl⟩ := Option.map_eq_some_iff.mp hi
      refine run_gname ?_
      try dsimp only
      refine ⟨_, rfl, _, rfl, _, rfl, x, .ref lh, t, z, 0, rfl, hA9.same S10, by omega, .inl ⟨rfl, n, lh, ys, wss, P2, iT, g, rfl, S10 _ _ hlh9, hY9.same S10, by rw [lys, lw], hR, hwl z (List.mem_of_getElem? hz)⟩, fun H11 S11 => ⟨_, rfl, iteF ?_⟩⟩
      exact ⟨_, rfl, S10.trans S11⟩
    rintro σ H10 ⟨o7, rfl, S10⟩
    try dsimp only
    have S010 := S09.trans S10
    -- texts that are none
    refine ⟨_, rfl, _, rfl, a, ns, 4, rfl, S010.seq hS, by decide, by decide, fun c4 => ?_⟩
    refine ⟨lt, us, wss, c4, rfl, S10 _ _ hlt9, hT9.same S10, by omega, by omega, fun gA xs bs H11 S11 hg hJ hx _ hbad => ?_⟩
    have S911 := S10.trans S11
    have S011 := S09.trans S911
    refine run_gname ?_
    try dsimp only
    have hbad' : xs.length ≠ n.length ∨ bs.all id = false := by rw [← lw]; exact hbad
    refine run_seq (t := _) ?_
    refine ⟨_, rfl, _, rfl, by show 2 ≤ sizeLine; decide, fun p1 m1 => ?_⟩
    have T1 := same_new (o := .lst [V.int ((l0 : Nat) : Int), V.int 400]) m1
    have hp1 : upd H11 p1 (.lst [V.int ((l0 : Nat) : Int), V.int 400]) p1 = some (.lst [V.int ((l0 : Nat) : Int), V.int 400]) := upd_same
    generalize upd H11 p1 (.lst [V.int ((l0 : Nat) : Int), V.int 400]) = H12 at T1 hp1
    refine ⟨lw', p1, _, _, rfl, rfl, T1 _ _ (S911 _ _ hlw9), hp1, by rw [List.length_map]; exact Nat.le_trans (show wl.length + 2 ≤ 1000 by omega) (by decide), fun p2 m2 => ?_⟩
    have T2 := same_new (o := .lst (wl.map V.int ++ [V.int ((l0 : Nat) : Int), V.int 400])) m2
    have hp2 : upd H12 p2 (.lst (wl.map V.int ++ [V.int ((l0 : Nat) : Int), V.int 400])) p2 = some (.lst ((wl ++ [((l0 : Nat) : Int), 400]).map V.int)) := by
      rw [upd_same, List.map_append]
      rfl
    have T12 := T1.trans T2
    generalize upd H12 p2 (.lst (wl.map V.int ++ [V.int ((l0 : Nat) : Int), V.int 400])) = H13 at T2 hp2 T12
    refine ⟨p2, rfl, ⟨_, SqL.of hp2⟩, ?_⟩
    refine for_list (K := K) (a := p2) (xs := (wl ++ [((l0 : Nat) : Int), 400]).map V.int) (fun i σ H' => ∃ o7 : Option V, σ = [some (.ref a), some x, some (.ref lt), some (.ref lh), some (.int far), some (.ref lw'), some (.int ((l0 : Nat) : Int)), o7, some (.ref gA), none, none, none] ∧ Same H13 H') ⟨_, rfl, Same.refl _⟩ (fun i σ H' _ ⟨_, _, S⟩ => SqL.of (S _ _ hp2)) ?_ ?_
    · rintro i v σ H14 hi ⟨o7, rfl, S14⟩
      rw [List.getElem?_map] at hi
      obtain ⟨z, hz, rfl⟩ := Option.map_eq_some_iff.mp hi
      refine run_gname ?_
      try dsimp only
      have T14 := T12.trans S14
      refine ⟨_, rfl, _, rfl, _, rfl, x, .ref gA, t, z, 1, rfl, hA9.same (S911.trans T14), by omega, .inr (.inl ⟨rfl, n, gA, xs, bs, iT, g, rfl, T14 _ _ hg, hJ.same T14, by omega, hbad'⟩), fun H15 S15 => ⟨_, rfl, iteF ?_⟩⟩
      exact ⟨_, rfl, S14.trans S15⟩
    rintro σ H14 ⟨o7, rfl, S14⟩
    try dsimp only
    have T14 := T12.trans S14
    have S914 := S911.trans T14
    have S014 := S09.trans S914
    -- what is no tree
    refine ⟨_, rfl, a, ns, 4, rfl, S014.seq hS, by decide, by decide, fun c5 => ⟨_, _, rfl, rfl, ⟨by decide, by decide⟩, ?_⟩⟩
    refine run_gname ?_
    try dsimp only
    have b01 : ∀ {σ : St} {H0 : Hp} {i j : Int}, TeL [.int i, .int j] (tCons (tC (.int i)) (tCons (tC (.int j)) tNil)) σ H0 := tel_cons (te_c fun _ => .int _) (tel_cons (te_c fun _ => .int _) tel_nil)
    have tk : ∀ {σ : St} {H0 : Hp} {k : Str} {t : T} {te : TE}, Te t te σ H0 → Te (.tup [.str k, t]) (tTup (tCons (tC (.str k)) (tCons te tNil))) σ H0 := fun h => te_tup (tel_cons (te_c fun _ => .str _) (tel_cons h tel_nil)) (by show 2 ≤ 100; decide)
    refine go_te (ts := ten) (H0 := H14) (tel_cons (te_c fun _ => .non) (tel_cons (te_c fun _ => .bl _) (tel_cons (te_c fun _ => .str _) (tel_cons (te_c fun _ => .int _) (tel_cons te_neg (tel_cons (tk (te_tup (tel_cons (te_c fun _ => .int _) tel_nil) (by decide))) (tel_cons (tk (te_tup b01 (by decide))) (tel_cons (tk (te_lst b01 (by decide))) (tel_cons (te_lst (tel_cons (te_c fun _ => .str _) (tel_cons (te_tup b01 (by decide)) tel_nil)) (by show 2 ≤ 100; decide)) (tel_cons (tk (te_tup b01 (by decide))) tel_nil)))))))))) (Same.refl _) (by decide) fun l1 vs H16 S16 hl1 hv16 => ?_
    have q0 := Int.emod_nonneg (c5 / 5) (show (14 : Int) ≠ 0 by decide)
    have q1 := Int.emod_lt_of_pos (c5 / 5) (show (0 : Int) < 14 by decide)
    refine go_tw (ts := four) (ts0 := ten) (H0 := H16) (c := (c5 / 5) % 14) rfl hl1 hv16 (tel_cons (tk (te_tup b01 (by decide))) (tel_cons (tk (te_tup (tel_cons (tk (te_tup b01 (by decide))) (tel_cons (te_c fun _ => .int _) tel_nil)) (by show 2 ≤ 100; decide))) (tel_cons (te_tup tel_nil (by decide)) (tel_cons te_dic tel_nil)))) (Same.refl _) (by decide) (fun H Q z => ⟨_, rfl, _, _, rfl, rfl, (by show (0 : Int) < 14; decide), z⟩) q0 q1 fun u tw H19 S19 hAw htw => ?_
    obtain ⟨noT, szw⟩ := wrong_all tw htw
    try dsimp only
    have S919 := S914.trans (S16.trans S19)
    refine run_seq (t := _) ?_
    refine ⟨_, rfl, _, rfl, by show 1 ≤ sizeLine; decide, fun p5 m5 => ?_⟩
    have U1 := same_new (o := .lst [V.int ((l0 : Nat) : Int)]) m5
    have hp5 : upd H19 p5 (.lst [V.int ((l0 : Nat) : Int)]) p5 = some (.lst [V.int ((l0 : Nat) : Int)]) := upd_same
    generalize upd H19 p5 (.lst [V.int ((l0 : Nat) : Int)]) = H20 at U1 hp5
    refine ⟨lw', p5, _, _, rfl, rfl, U1 _ _ (S919 _ _ hlw9), hp5, by rw [List.length_map]; exact Nat.le_trans (show wl.length + 1 ≤ 1000 by omega) (by decide), fun p6 m6 => ?_⟩
    have U2 := same_new (o := .lst (wl.map V.int ++ [V.int ((l0 : Nat) : Int)])) m6
    have hp6 : upd H20 p6 (.lst (wl.map V.int ++ [V.int ((l0 : Nat) : Int)])) p6 = some (.lst ((wl ++ [((l0 : Nat) : Int)]).map V.int)) := by
      rw [upd_same, List.map_append]
      rfl
    have U12 := U1.trans U2
    generalize upd H20 p6 (.lst (wl.map V.int ++ [V.int ((l0 : Nat) : Int)])) = H21 at U2 hp6 U12
    refine ⟨p6, rfl, ⟨_, SqL.of hp6⟩, ?_⟩
    refine for_list (K := K) (a := p6) (xs := (wl ++ [((l0 : Nat) : Int)]).map V.int) (fun i σ H' => ∃ o7 : Option V, σ = [some (.ref a), some x, some (.ref lt), some (.ref lh), some (.int far), some (.ref lw'), some (.int ((l0 : Nat) : Int)), o7, some (.ref gA), some (.int (c5 / 5)), some (.ref l1), some u] ∧ Same H21 H') ⟨_, rfl, Same.refl _⟩ (fun i σ H' _ ⟨_, _, S⟩ => SqL.of (S _ _ hp6)) ?_ ?_
    · rintro i v σ H22 hi ⟨o7, rfl, S22⟩
      rw [List.getElem?_map] at hi
      obtain ⟨z, hz, rfl⟩ := Option.map_eq_some_iff.mp hi
      refine run_gname ?_
      try dsimp only
      have U22 := U12.trans S22
      refine ⟨_, rfl, _, rfl, _, rfl, u, .ref lt, tw, z, 2, rfl, hAw.same U22, by omega, .inr (.inr ⟨rfl, noT⟩), fun H23 S23 => ⟨_, rfl, iteF ?_⟩⟩
      refine ⟨_, rfl, _, rfl, _, rfl, u, .ref gA, tw, z, 2, rfl, hAw.same (U22.trans S23), by omega, .inr (.inr ⟨rfl, noT⟩), fun H24 S24 => ⟨_, rfl, iteF ?_⟩⟩
      exact ⟨_, rfl, S22.trans (S23.trans S24)⟩
    rintro σ H22 ⟨o7, rfl, S22⟩
    have Sz := S919.trans (U12.trans S22)
    exact ⟨_, rfl, _, rfl, lh, lt, 2, true, rfl, rfl, eq_txs (Sz _ _ hlh9) (Sz _ _ hlt9) (hY9.same Sz) (hT9.same Sz), by decide, q _⟩
end
end JH
set_option Elab.async false
set_option linter.all false
set_option maxRecDepth 100000
namespace L2
open PySem PySem.Spec PyProof.Rows
end L2
set_option Elab.async false
set_option linter.all false
set_option maxRecDepth 100000
set_option maxHeartbeats 4000000
namespace JH
open PySem L2 Tre
theorem bl1 {α : Type} {p : List α → Prop} {us : List α} (hl : us.length = 1) (q : ∀ a0, p [a0]) : p us := match us, hl with
  | [a0], _ => q a0
theorem bl2 {α : Type} {p : List α → Prop} {us : List α} (hl : us.length = 2) (q : ∀ a0 a1, p [a0, a1]) : p us := match us, hl with
  | [a0, a1], _ => q a0 a1
theorem bl3 {α : Type} {p : List α → Prop} {us : List α} (hl : us.length = 3) (q : ∀ a0 a1 a2, p [a0, a1, a2]) : p us := match us, hl with
  | [a0, a1, a2], _ => q a0 a1 a2
theorem bl4 {α : Type} {p : List α → Prop} {us : List α} (hl : us.length = 4) (q : ∀ a0 a1 a2 a3, p [a0, a1, a2, a3]) : p us := match us, hl with
  | [a0, a1, a2, a3], _ => q a0 a1 a2 a3
theorem all_mk {l : PySem.W.OpenLaw} {w : World} {K : PySem.W.Frag} {h : Heap} {mg : Str → Option Value} {fa  f0 f1 f2 f3 f4 f5 f6 f7 f8 f9 f10 f11 f12 f13 f14 f15 f16 f17 f18 f19 f20 f21 f22 f23 f24 f25 f26 f27 f28 f29 f30 f31 f32 f33 f34 f35 f36 f37 f38 f39 f40 C0 C1 C2 C3 C4 C5 C6 C7 C8 C9 : Addr} (X : K.In h) (G : h.Ns mainGlobals mg) (hfa : mg "law" = some (.ref fa)) 
    {od0 od1 od2 od3 od4 od5 od6 od7 od8 od9 od10 od11 od12 od13 od14 od15 od16 od17 od18 od19 od20 od21 od22 od23 od24 od25 od26 od27 od28 od29 od30 od31 od32 od33 od34 od35 od36 od37 od38 od39 od40 an0 an1 an2 an3 an4 an5 an6 an7 an8 an9 an10 an11 an12 an13 an14 an15 an16 an17 an18 an19 an20 an21 an22 an23 an24 an25 an26 an27 an28 an29 an30 an31 an32 an33 an34 an35 an36 an37 an38 an39 an40 : Option Addr} {sl0 sl1 sl2 sl3 sl4 sl5 sl6 sl7 sl8 sl9 sl10 sl11 sl12 sl13 sl14 sl15 sl16 sl17 sl18 sl19 sl20 sl21 sl22 sl23 sl24 sl25 sl26 sl27 sl28 sl29 sl30 sl31 sl32 sl33 sl34 sl35 sl36 sl37 sl38 sl39 sl40 : Array (Option Value)} {oc0 kV0 dc0 pm0 cd0 ct0 oc1 kV1 dc1 pm1 cd1 ct1 oc2 kV2 dc2 pm2 cd2 ct2 oc3 kV3 dc3 pm3 cd3 ct3 oc4 kV4 dc4 pm4 cd4 ct4 oc5 kV5 dc5 pm5 cd5 ct5 oc6 kV6 dc6 pm6 cd6 ct6 oc7 kV7 dc7 pm7 cd7 ct7 oc8 kV8 dc8 pm8 cd8 ct8 oc9 kV9 dc9 pm9 cd9 ct9 oc10 kV10 dc10 pm10 cd10 ct10 oc11 kV11 dc11 pm11 cd11 ct11 oc12 kV12 dc12 pm12 cd12 ct12 oc13 kV13 dc13 pm13 cd13 ct13 oc14 kV14 dc14 pm14 cd14 ct14 oc15 kV15 dc15 pm15 cd15 ct15 oc16 kV16 dc16 pm16 cd16 ct16 oc17 kV17 dc17 pm17 cd17 ct17 oc18 kV18 dc18 pm18 cd18 ct18 oc19 kV19 dc19 pm19 cd19 ct19 oc20 kV20 dc20 pm20 cd20 ct20 oc21 kV21 dc21 pm21 cd21 ct21 oc22 kV22 dc22 pm22 cd22 ct22 oc23 kV23 dc23 pm23 cd23 ct23 oc24 kV24 dc24 pm24 cd24 ct24 oc25 kV25 dc25 pm25 cd25 ct25 oc26 kV26 dc26 pm26 cd26 ct26 oc27 kV27 dc27 pm27 cd27 ct27 oc28 kV28 dc28 pm28 cd28 ct28 oc29 kV29 dc29 pm29 cd29 ct29 oc30 kV30 dc30 pm30 cd30 ct30 oc31 kV31 dc31 pm31 cd31 ct31 oc32 kV32 dc32 pm32 cd32 ct32 oc33 kV33 dc33 pm33 cd33 ct33 oc34 kV34 dc34 pm34 cd34 ct34 oc35 kV35 dc35 pm35 cd35 ct35 oc36 kV36 dc36 pm36 cd36 ct36 oc37 kV37 dc37 pm37 cd37 ct37 oc38 kV38 dc38 pm38 cd38 ct38 oc39 kV39 dc39 pm39 cd39 ct39 oc40 kV40 dc40 pm40 cd40 ct40 : Value} {kA : Addr} {odK : Option Addr} {nK : Nat} {slK : Array (Option Value)} {tk1 tk2 : Tok} {t_LEFT_OUT t_MOST_SIGNS t_KIND t_PARTS t_MOST_BOXES t_WIDE t_HIGH t_MOST_WORDS t_LEFT t_TOP t_RIGHT t_BELOW t_MOST_WIDE t_ACROSS : Tok}
    (a0 : PySem.W.nsIn K mainGlobals "is_sign" = some (some (.ref f0)))
    (l0 : K.lookup f0 = some ⟨oc0, od0, .func (PySem.W.fnOf "is_sign" "is_sign" (defArgs sSign) (defBody sSign) (defScope sSign) .none kV0 dc0 pm0 an0 cd0 ct0), sl0⟩)
    (c0 : PySem.W.codeIn K cd0 "is_sign" = true)
    (k0 : PySem.W.keepIn K (.ref f0) = true)
    (a1 : PySem.W.nsIn K mainGlobals "is_word" = some (some (.ref f1)))
    (l1 : K.lookup f1 = some ⟨oc1, od1, .func (PySem.W.fnOf "is_word" "is_word" (defArgs sWord) (defBody sWord) (defScope sWord) .none kV1 dc1 pm1 an1 cd1 ct1), sl1⟩)
    (c1 : PySem.W.codeIn K cd1 "is_word" = true)
    (k1 : PySem.W.keepIn K (.ref f1) = true)
    (a2 : PySem.W.nsIn K mainGlobals "are_words" = some (some (.ref f2)))
    (l2 : K.lookup f2 = some ⟨oc2, od2, .func (PySem.W.fnOf "are_words" "are_words" (defArgs sAre) (defBody sAre) (defScope sAre) .none kV2 dc2 pm2 an2 cd2 ct2), sl2⟩)
    (c2 : PySem.W.codeIn K cd2 "are_words" = true)
    (k2 : PySem.W.keepIn K (.ref f2) = true)
    (a3 : PySem.W.nsIn K mainGlobals "refuse_no_words" = some (some (.ref f3)))
    (l3 : K.lookup f3 = some ⟨oc3, od3, .func (PySem.W.fnOf "refuse_no_words" "refuse_no_words" (defArgs sRefuse) (defBody sRefuse) (defScope sRefuse) .none kV3 dc3 pm3 an3 cd3 ct3), sl3⟩)
    (c3 : PySem.W.codeIn K cd3 "refuse_no_words" = true)
    (k3 : PySem.W.keepIn K (.ref f3) = true)
    (a4 : PySem.W.nsIn K mainGlobals "taken" = some (some (.ref f4)))
    (l4 : K.lookup f4 = some ⟨oc4, od4, .func (PySem.W.fnOf "taken" "taken" (defArgs sTaken) (defBody sTaken) (defScope sTaken) .none kV4 dc4 pm4 an4 cd4 ct4), sl4⟩)
    (c4 : PySem.W.codeIn K cd4 "taken" = true)
    (k4 : PySem.W.keepIn K (.ref f4) = true)
    (a5 : PySem.W.nsIn K mainGlobals "with_next_word" = some (some (.ref f5)))
    (l5 : K.lookup f5 = some ⟨oc5, od5, .func (PySem.W.fnOf "with_next_word" "with_next_word" (defArgs sWith) (defBody sWith) (defScope sWith) .none kV5 dc5 pm5 an5 cd5 ct5), sl5⟩)
    (c5 : PySem.W.codeIn K cd5 "with_next_word" = true)
    (k5 : PySem.W.keepIn K (.ref f5) = true)
    (a6 : PySem.W.nsIn K mainGlobals "next_width" = some (some (.ref f6)))
    (l6 : K.lookup f6 = some ⟨oc6, od6, .func (PySem.W.fnOf "next_width" "next_width" (defArgs sNextW) (defBody sNextW) (defScope sNextW) .none kV6 dc6 pm6 an6 cd6 ct6), sl6⟩)
    (c6 : PySem.W.codeIn K cd6 "next_width" = true)
    (k6 : PySem.W.keepIn K (.ref f6) = true)
    (a7 : PySem.W.nsIn K mainGlobals "text_stairs" = some (some (.ref f7)))
    (l7 : K.lookup f7 = some ⟨oc7, od7, .func (PySem.W.fnOf "text_stairs" "text_stairs" (defArgs sStairs) (defBody sStairs) (defScope sStairs) .none kV7 dc7 pm7 an7 cd7 ct7), sl7⟩)
    (c7 : PySem.W.codeIn K cd7 "text_stairs" = true)
    (k7 : PySem.W.keepIn K (.ref f7) = true)
    (a8 : PySem.W.nsIn K mainGlobals "is_whole" = some (some (.ref f8)))
    (l8 : K.lookup f8 = some ⟨oc8, od8, .func (PySem.W.fnOf "is_whole" "is_whole" (defArgs sWhole) (defBody sWhole) (defScope sWhole) .none kV8 dc8 pm8 an8 cd8 ct8), sl8⟩)
    (c8 : PySem.W.codeIn K cd8 "is_whole" = true)
    (k8 : PySem.W.keepIn K (.ref f8) = true)
    (a9 : PySem.W.nsIn K mainGlobals "has_kind" = some (some (.ref f9)))
    (l9 : K.lookup f9 = some ⟨oc9, od9, .func (PySem.W.fnOf "has_kind" "has_kind" (defArgs sHas) (defBody sHas) (defScope sHas) .none kV9 dc9 pm9 an9 cd9 ct9), sl9⟩)
    (c9 : PySem.W.codeIn K cd9 "has_kind" = true)
    (k9 : PySem.W.keepIn K (.ref f9) = true)
    (a10 : PySem.W.nsIn K mainGlobals "is_branch" = some (some (.ref f10)))
    (l10 : K.lookup f10 = some ⟨oc10, od10, .func (PySem.W.fnOf "is_branch" "is_branch" (defArgs sBr) (defBody sBr) (defScope sBr) .none kV10 dc10 pm10 an10 cd10 ct10), sl10⟩)
    (c10 : PySem.W.codeIn K cd10 "is_branch" = true)
    (k10 : PySem.W.keepIn K (.ref f10) = true)
    (a11 : PySem.W.nsIn K mainGlobals "numbers_in" = some (some (.ref f11)))
    (l11 : K.lookup f11 = some ⟨oc11, od11, .func (PySem.W.fnOf "numbers_in" "numbers_in" (defArgs sNum) (defBody sNum) (defScope sNum) .none kV11 dc11 pm11 an11 cd11 ct11), sl11⟩)
    (c11 : PySem.W.codeIn K cd11 "numbers_in" = true)
    (k11 : PySem.W.keepIn K (.ref f11) = true)
    (a12 : PySem.W.nsIn K mainGlobals "is_tree" = some (some (.ref f12)))
    (l12 : K.lookup f12 = some ⟨oc12, od12, .func (PySem.W.fnOf "is_tree" "is_tree" (defArgs sTree) (defBody sTree) (defScope sTree) .none kV12 dc12 pm12 an12 cd12 ct12), sl12⟩)
    (c12 : PySem.W.codeIn K cd12 "is_tree" = true)
    (k12 : PySem.W.keepIn K (.ref f12) = true)
    (a13 : PySem.W.nsIn K mainGlobals "refuse_no_tree" = some (some (.ref f13)))
    (l13 : K.lookup f13 = some ⟨oc13, od13, .func (PySem.W.fnOf "refuse_no_tree" "refuse_no_tree" (defArgs sRefT) (defBody sRefT) (defScope sRefT) .none kV13 dc13 pm13 an13 cd13 ct13), sl13⟩)
    (c13 : PySem.W.codeIn K cd13 "refuse_no_tree" = true)
    (k13 : PySem.W.keepIn K (.ref f13) = true)
    (a14 : PySem.W.nsIn K mainGlobals "boxes_of" = some (some (.ref f14)))
    (l14 : K.lookup f14 = some ⟨oc14, od14, .func (PySem.W.fnOf "boxes_of" "boxes_of" (defArgs sBoxes) (defBody sBoxes) (defScope sBoxes) .none kV14 dc14 pm14 an14 cd14 ct14), sl14⟩)
    (c14 : PySem.W.codeIn K cd14 "boxes_of" = true)
    (k14 : PySem.W.keepIn K (.ref f14) = true)
    (a15 : PySem.W.nsIn K mainGlobals "is_text" = some (some (.ref f15)))
    (l15 : K.lookup f15 = some ⟨oc15, od15, .func (PySem.W.fnOf "is_text" "is_text" (defArgs sText) (defBody sText) (defScope sText) .none kV15 dc15 pm15 an15 cd15 ct15), sl15⟩)
    (c15 : PySem.W.codeIn K cd15 "is_text" = true)
    (k15 : PySem.W.keepIn K (.ref f15) = true)
    (a16 : PySem.W.nsIn K mainGlobals "refuse_no_texts" = some (some (.ref f16)))
    (l16 : K.lookup f16 = some ⟨oc16, od16, .func (PySem.W.fnOf "refuse_no_texts" "refuse_no_texts" (defArgs sRTx) (defBody sRTx) (defScope sRTx) .none kV16 dc16 pm16 an16 cd16 ct16), sl16⟩)
    (c16 : PySem.W.codeIn K cd16 "refuse_no_texts" = true)
    (k16 : PySem.W.keepIn K (.ref f16) = true)
    (a17 : PySem.W.nsIn K mainGlobals "side_by_side" = some (some (.ref f17)))
    (l17 : K.lookup f17 = some ⟨oc17, od17, .func (PySem.W.fnOf "side_by_side" "side_by_side" (defArgs sSbs) (defBody sSbs) (defScope sSbs) .none kV17 dc17 pm17 an17 cd17 ct17), sl17⟩)
    (c17 : PySem.W.codeIn K cd17 "side_by_side" = true)
    (k17 : PySem.W.keepIn K (.ref f17) = true)
    (a18 : PySem.W.nsIn K mainGlobals "all_side_by_side" = some (some (.ref f18)))
    (l18 : K.lookup f18 = some ⟨oc18, od18, .func (PySem.W.fnOf "all_side_by_side" "all_side_by_side" (defArgs sAll) (defBody sAll) (defScope sAll) .none kV18 dc18 pm18 an18 cd18 ct18), sl18⟩)
    (c18 : PySem.W.codeIn K cd18 "all_side_by_side" = true)
    (k18 : PySem.W.keepIn K (.ref f18) = true)
    (a19 : PySem.W.nsIn K mainGlobals "exchanged" = some (some (.ref f19)))
    (l19 : K.lookup f19 = some ⟨oc19, od19, .func (PySem.W.fnOf "exchanged" "exchanged" (defArgs sExch) (defBody sExch) (defScope sExch) .none kV19 dc19 pm19 an19 cd19 ct19), sl19⟩)
    (c19 : PySem.W.codeIn K cd19 "exchanged" = true)
    (k19 : PySem.W.keepIn K (.ref f19) = true)
    (a20 : PySem.W.nsIn K mainGlobals "box_stairs" = some (some (.ref f20)))
    (l20 : K.lookup f20 = some ⟨oc20, od20, .func (PySem.W.fnOf "box_stairs" "box_stairs" (defArgs sBst) (defBody sBst) (defScope sBst) .none kV20 dc20 pm20 an20 cd20 ct20), sl20⟩)
    (c20 : PySem.W.codeIn K cd20 "box_stairs" = true)
    (k20 : PySem.W.keepIn K (.ref f20) = true)
    (a21 : PySem.W.nsIn K mainGlobals "stairs_of" = some (some (.ref f21)))
    (l21 : K.lookup f21 = some ⟨oc21, od21, .func (PySem.W.fnOf "stairs_of" "stairs_of" (defArgs sSo) (defBody sSo) (defScope sSo) .none kV21 dc21 pm21 an21 cd21 ct21), sl21⟩)
    (c21 : PySem.W.codeIn K cd21 "stairs_of" = true)
    (k21 : PySem.W.keepIn K (.ref f21) = true)
    (a22 : PySem.W.nsIn K mainGlobals "tree_stairs" = some (some (.ref f22)))
    (l22 : K.lookup f22 = some ⟨oc22, od22, .func (PySem.W.fnOf "tree_stairs" "tree_stairs" (defArgs sTst) (defBody sTst) (defScope sTst) .none kV22 dc22 pm22 an22 cd22 ct22), sl22⟩)
    (c22 : PySem.W.codeIn K cd22 "tree_stairs" = true)
    (k22 : PySem.W.keepIn K (.ref f22) = true)
    (a23 : PySem.W.nsIn K mainGlobals "lowest" = some (some (.ref f23)))
    (l23 : K.lookup f23 = some ⟨oc23, od23, .func (PySem.W.fnOf "lowest" "lowest" (defArgs sLow) (defBody sLow) (defScope sLow) .none kV23 dc23 pm23 an23 cd23 ct23), sl23⟩)
    (c23 : PySem.W.codeIn K cd23 "lowest" = true)
    (k23 : PySem.W.keepIn K (.ref f23) = true)
    (a24 : PySem.W.nsIn K mainGlobals "narrowest" = some (some (.ref f24)))
    (l24 : K.lookup f24 = some ⟨oc24, od24, .func (PySem.W.fnOf "narrowest" "narrowest" (defArgs sNarw) (defBody sNarw) (defScope sNarw) .none kV24 dc24 pm24 an24 cd24 ct24), sl24⟩)
    (c24 : PySem.W.codeIn K cd24 "narrowest" = true)
    (k24 : PySem.W.keepIn K (.ref f24) = true)
    (a25 : PySem.W.nsIn K mainGlobals "least_high" = some (some (.ref f25)))
    (l25 : K.lookup f25 = some ⟨oc25, od25, .func (PySem.W.fnOf "least_high" "least_high" (defArgs sLh) (defBody sLh) (defScope sLh) .none kV25 dc25 pm25 an25 cd25 ct25), sl25⟩)
    (c25 : PySem.W.codeIn K cd25 "least_high" = true)
    (k25 : PySem.W.keepIn K (.ref f25) = true)
    (a26 : PySem.W.nsIn K mainGlobals "least_wide" = some (some (.ref f26)))
    (l26 : K.lookup f26 = some ⟨oc26, od26, .func (PySem.W.fnOf "least_wide" "least_wide" (defArgs sLwide) (defBody sLwide) (defScope sLwide) .none kV26 dc26 pm26 an26 cd26 ct26), sl26⟩)
    (c26 : PySem.W.codeIn K cd26 "least_wide" = true)
    (k26 : PySem.W.keepIn K (.ref f26) = true)
    (a27 : PySem.W.nsIn K mainGlobals "height_in" = some (some (.ref f27)))
    (l27 : K.lookup f27 = some ⟨oc27, od27, .func (PySem.W.fnOf "height_in" "height_in" (defArgs sHin) (defBody sHin) (defScope sHin) .none kV27 dc27 pm27 an27 cd27 ct27), sl27⟩)
    (c27 : PySem.W.codeIn K cd27 "height_in" = true)
    (k27 : PySem.W.keepIn K (.ref f27) = true)
    (a28 : PySem.W.nsIn K mainGlobals "printed" = some (some (.ref f28)))
    (l28 : K.lookup f28 = some ⟨oc28, od28, .func (PySem.W.fnOf "printed" "printed" (defArgs sPrd69) (defBody sPrd69) (defScope sPrd69) .none kV28 dc28 pm28 an28 cd28 ct28), sl28⟩)
    (c28 : PySem.W.codeIn K cd28 "printed" = true)
    (k28 : PySem.W.keepIn K (.ref f28) = true)
    (a29 : PySem.W.nsIn K mainGlobals "_law_stir" = some (some (.ref f29)))
    (l29 : K.lookup f29 = some ⟨oc29, od29, .func (PySem.W.fnOf "_law_stir" "_law_stir" (defArgs sStir) (defBody sStir) (defScope sStir) .none kV29 dc29 pm29 an29 cd29 ct29), sl29⟩)
    (c29 : PySem.W.codeIn K cd29 "_law_stir" = true)
    (k29 : PySem.W.keepIn K (.ref f29) = true)
    (a30 : PySem.W.nsIn K mainGlobals "_law_cell" = some (some (.ref f30)))
    (l30 : K.lookup f30 = some ⟨oc30, od30, .func (PySem.W.fnOf "_law_cell" "_law_cell" (defArgs sCell) (defBody sCell) (defScope sCell) .none kV30 dc30 pm30 an30 cd30 ct30), sl30⟩)
    (c30 : PySem.W.codeIn K cd30 "_law_cell" = true)
    (k30 : PySem.W.keepIn K (.ref f30) = true)
    (a31 : PySem.W.nsIn K mainGlobals "_law_lack" = some (some (.ref f31)))
    (l31 : K.lookup f31 = some ⟨oc31, od31, .func (PySem.W.fnOf "_law_lack" "_law_lack" (defArgs sLack) (defBody sLack) (defScope sLack) .none kV31 dc31 pm31 an31 cd31 ct31), sl31⟩)
    (c31 : PySem.W.codeIn K cd31 "_law_lack" = true)
    (k31 : PySem.W.keepIn K (.ref f31) = true)
    (a32 : PySem.W.nsIn K mainGlobals "_law_shape" = some (some (.ref f32)))
    (l32 : K.lookup f32 = some ⟨oc32, od32, .func (PySem.W.fnOf "_law_shape" "_law_shape" (defArgs sShape) (defBody sShape) (defScope sShape) .none kV32 dc32 pm32 an32 cd32 ct32), sl32⟩)
    (c32 : PySem.W.codeIn K cd32 "_law_shape" = true)
    (k32 : PySem.W.keepIn K (.ref f32) = true)
    (a33 : PySem.W.nsIn K mainGlobals "_law_count" = some (some (.ref f33)))
    (l33 : K.lookup f33 = some ⟨oc33, od33, .func (PySem.W.fnOf "_law_count" "_law_count" (defArgs sCnt69) (defBody sCnt69) (defScope sCnt69) .none kV33 dc33 pm33 an33 cd33 ct33), sl33⟩)
    (c33 : PySem.W.codeIn K cd33 "_law_count" = true)
    (k33 : PySem.W.keepIn K (.ref f33) = true)
    (a34 : PySem.W.nsIn K mainGlobals "_law_numbered" = some (some (.ref f34)))
    (l34 : K.lookup f34 = some ⟨oc34, od34, .func (PySem.W.fnOf "_law_numbered" "_law_numbered" (defArgs sNmb69) (defBody sNmb69) (defScope sNmb69) .none kV34 dc34 pm34 an34 cd34 ct34), sl34⟩)
    (c34 : PySem.W.codeIn K cd34 "_law_numbered" = true)
    (k34 : PySem.W.keepIn K (.ref f34) = true)
    (a35 : PySem.W.nsIn K mainGlobals "_law_tree" = some (some (.ref f35)))
    (l35 : K.lookup f35 = some ⟨oc35, od35, .func (PySem.W.fnOf "_law_tree" "_law_tree" (defArgs sLtree) (defBody sLtree) (defScope sLtree) .none kV35 dc35 pm35 an35 cd35 ct35), sl35⟩)
    (c35 : PySem.W.codeIn K cd35 "_law_tree" = true)
    (k35 : PySem.W.keepIn K (.ref f35) = true)
    (a36 : PySem.W.nsIn K mainGlobals "_law_word" = some (some (.ref f36)))
    (l36 : K.lookup f36 = some ⟨oc36, od36, .func (PySem.W.fnOf "_law_word" "_law_word" (defArgs sLw) (defBody sLw) (defScope sLw) .none kV36 dc36 pm36 an36 cd36 ct36), sl36⟩)
    (c36 : PySem.W.codeIn K cd36 "_law_word" = true)
    (k36 : PySem.W.keepIn K (.ref f36) = true)
    (a37 : PySem.W.nsIn K mainGlobals "_law_texts" = some (some (.ref f37)))
    (l37 : K.lookup f37 = some ⟨oc37, od37, .func (PySem.W.fnOf "_law_texts" "_law_texts" (defArgs (top 79)) (defBody (top 79)) (defScope (top 79)) .none kV37 dc37 pm37 an37 cd37 ct37), sl37⟩)
    (c37 : PySem.W.codeIn K cd37 "_law_texts" = true)
    (k37 : PySem.W.keepIn K (.ref f37) = true)
    (a38 : PySem.W.nsIn K mainGlobals "_law_refused" = some (some (.ref f38)))
    (l38 : K.lookup f38 = some ⟨oc38, od38, .func (PySem.W.fnOf "_law_refused" "_law_refused" (defArgs sRfd69) (defBody sRfd69) (defScope sRfd69) .none kV38 dc38 pm38 an38 cd38 ct38), sl38⟩)
    (c38 : PySem.W.codeIn K cd38 "_law_refused" = true)
    (k38 : PySem.W.keepIn K (.ref f38) = true)
    (a39 : PySem.W.nsIn K mainGlobals "_law_bad" = some (some (.ref f39)))
    (l39 : K.lookup f39 = some ⟨oc39, od39, .func (PySem.W.fnOf "_law_bad" "_law_bad" (defArgs sBad69) (defBody sBad69) (defScope sBad69) .none kV39 dc39 pm39 an39 cd39 ct39), sl39⟩)
    (c39 : PySem.W.codeIn K cd39 "_law_bad" = true)
    (k39 : PySem.W.keepIn K (.ref f39) = true)
    (a40 : PySem.W.nsIn K mainGlobals "law" = some (some (.ref f40)))
    (l40 : K.lookup f40 = some ⟨oc40, od40, .func (PySem.W.fnOf "law" "law" (defArgs sLaw) (defBody sLaw) (defScope sLaw) .none kV40 dc40 pm40 an40 cd40 ct40), sl40⟩)
    (c40 : PySem.W.codeIn K cd40 "law" = true)
    (k40 : PySem.W.keepIn K (.ref f40) = true)
    (C0m : PySem.W.nsIn K mainGlobals "PartError" = some (some (.ref C0)))
    (C1m : PySem.W.nsIn K mainGlobals "NoPage" = some (some (.ref C1)))
    (C2m : PySem.W.nsIn K mainGlobals "NoPicture" = some (some (.ref C2)))
    (C3m : PySem.W.nsIn K mainGlobals "NoPlace" = some (some (.ref C3)))
    (C4m : PySem.W.nsIn K mainGlobals "NoTree" = some (some (.ref C4)))
    (C5m : PySem.W.nsIn K mainGlobals "NoNeeds" = some (some (.ref C5)))
    (C6m : PySem.W.nsIn K mainGlobals "NoTexts" = some (some (.ref C6)))
    (C7m : PySem.W.nsIn K mainGlobals "NoRoom" = some (some (.ref C7)))
    (C8m : PySem.W.nsIn K mainGlobals "NoRow" = some (some (.ref C8)))
    (C9m : PySem.W.nsIn K mainGlobals "NoNumber" = some (some (.ref C9)))
    (z_len : PySem.W.nsIn K mainGlobals "len" = some none)
    (z_range : PySem.W.nsIn K mainGlobals "range" = some none)
    (z_min : PySem.W.nsIn K mainGlobals "min" = some none)
    (z_max : PySem.W.nsIn K mainGlobals "max" = some none)
    (z_sum : PySem.W.nsIn K mainGlobals "sum" = some none)
    (z_zip : PySem.W.nsIn K mainGlobals "zip" = some none)
    (z_isinstance : PySem.W.nsIn K mainGlobals "isinstance" = some none)
    (z_int : PySem.W.nsIn K mainGlobals "int" = some none)
    (z_bool : PySem.W.nsIn K mainGlobals "bool" = some none)
    (z_str : PySem.W.nsIn K mainGlobals "str" = some none)
    (z_tuple : PySem.W.nsIn K mainGlobals "tuple" = some none)
    (z_list : PySem.W.nsIn K mainGlobals "list" = some none)
    (z_all : PySem.W.nsIn K mainGlobals "all" = some none)
    (z_any : PySem.W.nsIn K mainGlobals "any" = some none)
    (z_ord : PySem.W.nsIn K mainGlobals "ord" = some none)
    (z_sorted : PySem.W.nsIn K mainGlobals "sorted" = some none)
    (z_reversed : PySem.W.nsIn K mainGlobals "reversed" = some none)
    (z_ValueError : PySem.W.nsIn K mainGlobals "ValueError" = some none)
    (g_LEFT_OUT : PySem.W.nsIn K mainGlobals "LEFT_OUT" = some (some (.int 37 t_LEFT_OUT)))
    (g_MOST_SIGNS : PySem.W.nsIn K mainGlobals "MOST_SIGNS" = some (some (.int 12 t_MOST_SIGNS)))
    (g_KIND : PySem.W.nsIn K mainGlobals "KIND" = some (some (.int 0 t_KIND)))
    (g_PARTS : PySem.W.nsIn K mainGlobals "PARTS" = some (some (.int 1 t_PARTS)))
    (g_MOST_BOXES : PySem.W.nsIn K mainGlobals "MOST_BOXES" = some (some (.int 24 t_MOST_BOXES)))
    (g_WIDE : PySem.W.nsIn K mainGlobals "WIDE" = some (some (.int 0 t_WIDE)))
    (g_HIGH : PySem.W.nsIn K mainGlobals "HIGH" = some (some (.int 1 t_HIGH)))
    (g_MOST_WORDS : PySem.W.nsIn K mainGlobals "MOST_WORDS" = some (some (.int 40 t_MOST_WORDS)))
    (g_LEFT : PySem.W.nsIn K mainGlobals "LEFT" = some (some (.int 0 t_LEFT)))
    (g_TOP : PySem.W.nsIn K mainGlobals "TOP" = some (some (.int 1 t_TOP)))
    (g_RIGHT : PySem.W.nsIn K mainGlobals "RIGHT" = some (some (.int 2 t_RIGHT)))
    (g_BELOW : PySem.W.nsIn K mainGlobals "BELOW" = some (some (.int 3 t_BELOW)))
    (g_MOST_WIDE : PySem.W.nsIn K mainGlobals "MOST_WIDE" = some (some (.int 400 t_MOST_WIDE)))
    (g_ACROSS : PySem.W.nsIn K mainGlobals "ACROSS" = some (some (.str "|" t_ACROSS)))
    (ex4 : PySem.W.excIn K C4 [.type "ValueError", .type "Exception", .type "BaseException", .type "object"] "ValueError.__new__" = true)
    (ex6 : PySem.W.excIn K C6 [.type "ValueError", .type "Exception", .type "BaseException", .type "object"] "ValueError.__new__" = true)
    (ex7 : PySem.W.excIn K C7 [.type "ValueError", .type "Exception", .type "BaseException", .type "object"] "ValueError.__new__" = true)
    (e0a : PySem.W.findIn K (.ref C0) "__getattribute__" = some (some (.builtin "BaseException.__getattribute__")))
    (e0b : PySem.W.findIn K (.ref C0) "__getattr__" = some none)
    (e0c : PySem.W.findIn K (.ref C0) "__class__" = some (some (.builtin "object.__class__")))
    (e0f : PySem.W.mroIn K C0 (.type "object") = some true)
    (e0g : PySem.W.mroIn K C0 (.type "BaseException") = some true)
    (e0h : PySem.W.typeIn K (.ref C0) = some (.type "type"))
    (e0i : (PySem.W.clsIn K C0).isSome = true)
    (e4a : PySem.W.findIn K (.ref C4) "__getattribute__" = some (some (.builtin "BaseException.__getattribute__")))
    (e4b : PySem.W.findIn K (.ref C4) "__getattr__" = some none)
    (e4c : PySem.W.findIn K (.ref C4) "__class__" = some (some (.builtin "object.__class__")))
    (e4f : PySem.W.mroIn K C4 (.type "object") = some true)
    (e4g : PySem.W.mroIn K C4 (.type "BaseException") = some true)
    (e4h : PySem.W.typeIn K (.ref C4) = some (.type "type"))
    (e4i : (PySem.W.clsIn K C4).isSome = true)
    (e6a : PySem.W.findIn K (.ref C6) "__getattribute__" = some (some (.builtin "BaseException.__getattribute__")))
    (e6b : PySem.W.findIn K (.ref C6) "__getattr__" = some none)
    (e6c : PySem.W.findIn K (.ref C6) "__class__" = some (some (.builtin "object.__class__")))
    (e6f : PySem.W.mroIn K C6 (.type "object") = some true)
    (e6g : PySem.W.mroIn K C6 (.type "BaseException") = some true)
    (e6h : PySem.W.typeIn K (.ref C6) = some (.type "type"))
    (e6i : (PySem.W.clsIn K C6).isSome = true)
    (e7a : PySem.W.findIn K (.ref C7) "__getattribute__" = some (some (.builtin "BaseException.__getattribute__")))
    (e7b : PySem.W.findIn K (.ref C7) "__getattr__" = some none)
    (e7c : PySem.W.findIn K (.ref C7) "__class__" = some (some (.builtin "object.__class__")))
    (e7f : PySem.W.mroIn K C7 (.type "object") = some true)
    (e7g : PySem.W.mroIn K C7 (.type "BaseException") = some true)
    (e7h : PySem.W.typeIn K (.ref C7) = some (.type "type"))
    (e7i : (PySem.W.clsIn K C7).isSome = true)
    (ed : PySem.W.specialIn K (.builtin "object.__class__") "__get__" = some (some (.builtin "getset_descriptor.__get__")))
    (ee : PySem.W.takesIn K (.builtin "object.__class__") = some true)
    (hKINDS : PySem.W.nsIn K mainGlobals "KINDS" = some (some (.ref kA)))
    (lkK : K.lookup kA = some ⟨.type "tuple", odK, .seq #[.str "|" tk1, .str "-" tk2] nK, slK⟩)
    (kt0 : PySem.W.kitOne K (.type "NoneType") (.type "str") = some false)
    (kt1 : PySem.W.kitOne K (.type "bool") (.type "str") = some false)
    (kt2 : PySem.W.kitOne K (.type "int") (.type "str") = some false)
    (kt3 : PySem.W.kitOne K (.type "list") (.type "str") = some false)
    (kt4 : PySem.W.kitOne K (.type "tuple") (.type "str") = some false)
    (kt5 : PySem.W.kitOne K (.type "dict") (.type "str") = some false)
    (kt6 : PySem.W.kitOne K (.type "NoneType") (.type "list") = some false)
    (kt7 : PySem.W.kitOne K (.type "str") (.type "list") = some false)
    (kt8 : PySem.W.kitOne K (.type "int") (.type "list") = some false)
    (kt9 : PySem.W.kitOne K (.type "tuple") (.type "list") = some false)
    (kt10 : PySem.W.kitOne K (.type "dict") (.type "list") = some false)
    (q_int0 : PySem.W.kitOne K (.type "NoneType") (.type "int") = some false)
    (q_int1 : PySem.W.kitOne K (.type "bool") (.type "int") = some true)
    (q_int2 : PySem.W.kitOne K (.type "int") (.type "int") = some true)
    (q_int3 : PySem.W.kitOne K (.type "str") (.type "int") = some false)
    (q_int4 : PySem.W.kitOne K (.type "tuple") (.type "int") = some false)
    (q_int5 : PySem.W.kitOne K (.type "list") (.type "int") = some false)
    (q_int6 : PySem.W.kitOne K (.type "dict") (.type "int") = some false)
    (q_bool0 : PySem.W.kitOne K (.type "NoneType") (.type "bool") = some false)
    (q_bool1 : PySem.W.kitOne K (.type "bool") (.type "bool") = some true)
    (q_bool2 : PySem.W.kitOne K (.type "int") (.type "bool") = some false)
    (q_bool3 : PySem.W.kitOne K (.type "str") (.type "bool") = some false)
    (q_bool4 : PySem.W.kitOne K (.type "tuple") (.type "bool") = some false)
    (q_bool5 : PySem.W.kitOne K (.type "list") (.type "bool") = some false)
    (q_bool6 : PySem.W.kitOne K (.type "dict") (.type "bool") = some false)
    (q_str0 : PySem.W.kitOne K (.type "NoneType") (.type "str") = some false)
    (q_str1 : PySem.W.kitOne K (.type "bool") (.type "str") = some false)
    (q_str2 : PySem.W.kitOne K (.type "int") (.type "str") = some false)
    (q_str3 : PySem.W.kitOne K (.type "str") (.type "str") = some true)
    (q_str4 : PySem.W.kitOne K (.type "tuple") (.type "str") = some false)
    (q_str5 : PySem.W.kitOne K (.type "list") (.type "str") = some false)
    (q_str6 : PySem.W.kitOne K (.type "dict") (.type "str") = some false)
    (q_tuple0 : PySem.W.kitOne K (.type "NoneType") (.type "tuple") = some false)
    (q_tuple1 : PySem.W.kitOne K (.type "bool") (.type "tuple") = some false)
    (q_tuple2 : PySem.W.kitOne K (.type "int") (.type "tuple") = some false)
    (q_tuple3 : PySem.W.kitOne K (.type "str") (.type "tuple") = some false)
    (q_tuple4 : PySem.W.kitOne K (.type "tuple") (.type "tuple") = some true)
    (q_tuple5 : PySem.W.kitOne K (.type "list") (.type "tuple") = some false)
    (q_tuple6 : PySem.W.kitOne K (.type "dict") (.type "tuple") = some false)
    (kt11 : PySem.W.kitOne K (.type "bool") (.type "list") = some false)
    (up4 : PySem.W.mroIn K C4 (.ref C0) = some true)
    (qk44 : PySem.W.kitOne K (.ref C4) (.ref C4) = some true)
    (qk46 : PySem.W.kitOne K (.ref C4) (.ref C6) = some false)
    (qk47 : PySem.W.kitOne K (.ref C4) (.ref C7) = some false)
    (qv4 : PySem.W.kitOne K (.ref C4) (.type "ValueError") = some true)
    (qA4 : PySem.W.kitAny K (.ref C4) [.ref C2, .ref C1, .ref C3, .ref C5, .ref C8, .ref C9] = some false)
    (up6 : PySem.W.mroIn K C6 (.ref C0) = some true)
    (qk64 : PySem.W.kitOne K (.ref C6) (.ref C4) = some false)
    (qk66 : PySem.W.kitOne K (.ref C6) (.ref C6) = some true)
    (qk67 : PySem.W.kitOne K (.ref C6) (.ref C7) = some false)
    (qv6 : PySem.W.kitOne K (.ref C6) (.type "ValueError") = some true)
    (qA6 : PySem.W.kitAny K (.ref C6) [.ref C2, .ref C1, .ref C3, .ref C5, .ref C8, .ref C9] = some false)
    (up7 : PySem.W.mroIn K C7 (.ref C0) = some true)
    (qk74 : PySem.W.kitOne K (.ref C7) (.ref C4) = some false)
    (qk76 : PySem.W.kitOne K (.ref C7) (.ref C6) = some false)
    (qk77 : PySem.W.kitOne K (.ref C7) (.ref C7) = some true)
    (qv7 : PySem.W.kitOne K (.ref C7) (.type "ValueError") = some true)
    (qA7 : PySem.W.kitAny K (.ref C7) [.ref C2, .ref C1, .ref C3, .ref C5, .ref C8, .ref C9] = some false) :
    ∃ fd : FuncData, (∀ (s : Shared) (v : Value), BindsTo s fd ⟨[v], []⟩ [("script", v)]) ∧ ∀ base : Heap, K.In base → base.Ns mainGlobals mg → FnOk l.prog w K mg base CX0 33 fa fd ["script"] (spLaw K) := by
  have e := hfa.symm.trans (PySem.W.mg_of X G a40)
  cases e
  have F0 := fun_mk (st := sSign) l0 c0 k0
  have F1 := fun_mk (st := sWord) l1 c1 k1
  have F2 := fun_mk (st := sAre) l2 c2 k2
  have F3 := fun_mk (st := sRefuse) l3 c3 k3
  have F4 := fun_mk (st := sTaken) l4 c4 k4
  have F5 := fun_mk (st := sWith) l5 c5 k5
  have F6 := fun_mk (st := sNextW) l6 c6 k6
  have F7 := fun_mk (st := sStairs) l7 c7 k7
  have F8 := fun_mk (st := sWhole) l8 c8 k8
  have F9 := fun_mk (st := sHas) l9 c9 k9
  have F10 := fun_mk (st := sBr) l10 c10 k10
  have F11 := fun_mk (st := sNum) l11 c11 k11
  have F12 := fun_mk (st := sTree) l12 c12 k12
  have F13 := fun_mk (st := sRefT) l13 c13 k13
  have F14 := fun_mk (st := sBoxes) l14 c14 k14
  have F15 := fun_mk (st := sText) l15 c15 k15
  have F16 := fun_mk (st := sRTx) l16 c16 k16
  have F17 := fun_mk (st := sSbs) l17 c17 k17
  have F18 := fun_mk (st := sAll) l18 c18 k18
  have F19 := fun_mk (st := sExch) l19 c19 k19
  have F20 := fun_mk (st := sBst) l20 c20 k20
  have F21 := fun_mk (st := sSo) l21 c21 k21
  have F22 := fun_mk (st := sTst) l22 c22 k22
  have F23 := fun_mk (st := sLow) l23 c23 k23
  have F24 := fun_mk (st := sNarw) l24 c24 k24
  have F25 := fun_mk (st := sLh) l25 c25 k25
  have F26 := fun_mk (st := sLwide) l26 c26 k26
  have F27 := fun_mk (st := sHin) l27 c27 k27
  have F28 := fun_mk (st := sPrd69) l28 c28 k28
  have F29 := fun_mk (st := sStir) l29 c29 k29
  have F30 := fun_mk (st := sCell) l30 c30 k30
  have F31 := fun_mk (st := sLack) l31 c31 k31
  have F32 := fun_mk (st := sShape) l32 c32 k32
  have F33 := fun_mk (st := sCnt69) l33 c33 k33
  have F34 := fun_mk (st := sNmb69) l34 c34 k34
  have F35 := fun_mk (st := sLtree) l35 c35 k35
  have F36 := fun_mk (st := sLw) l36 c36 k36
  have F37 := fun_mk (st := (top 79)) l37 c37 k37
  have F38 := fun_mk (st := sRfd69) l38 c38 k38
  have F39 := fun_mk (st := sBad69) l39 c39 k39
  have F40 := fun_mk (st := sLaw) l40 c40 k40
  have xc0 : ExcCls K C0 := ⟨e0a, e0b, e0c, ed, ee, e0f, e0g, e0h, e0i⟩
  have xc4 : ExcCls K C4 := ⟨e4a, e4b, e4c, ed, ee, e4f, e4g, e4h, e4i⟩
  have xc6 : ExcCls K C6 := ⟨e6a, e6b, e6c, ed, ee, e6f, e6g, e6h, e6i⟩
  have xc7 : ExcCls K C7 := ⟨e7a, e7b, e7c, ed, ee, e7f, e7g, e7h, e7i⟩
  have Z : Nm K mg := ⟨⟨_, PySem.W.mg_of X G g_LEFT_OUT⟩, ⟨_, PySem.W.mg_of X G g_MOST_SIGNS⟩, (PySem.W.mg_none_of X G z_isinstance), (PySem.W.mg_none_of X G z_str), (PySem.W.mg_none_of X G z_list), (PySem.W.mg_none_of X G z_len), (PySem.W.mg_none_of X G z_all), (PySem.W.mg_none_of X G z_any), (PySem.W.mg_none_of X G z_ord), kt0, kt1, kt2, kt3, kt4, kt5, kt6, kt7, kt8, kt9, kt10, kt11⟩
  have Zt : Nt K mg kA := ⟨⟨_, PySem.W.mg_of X G g_KIND⟩, ⟨_, PySem.W.mg_of X G g_PARTS⟩, ⟨_, PySem.W.mg_of X G g_MOST_BOXES⟩, PySem.W.mg_of X G hKINDS, fun H => .inr ⟨_, _, _, lkK, rfl, rfl, (show 2 ≤ sizeLine by decide), .cons ⟨_, rfl⟩ (.cons ⟨_, rfl⟩ .nil)⟩, (PySem.W.mg_none_of X G z_isinstance), (PySem.W.mg_none_of X G z_int), (PySem.W.mg_none_of X G z_bool), (PySem.W.mg_none_of X G z_str), (PySem.W.mg_none_of X G z_tuple), (PySem.W.mg_none_of X G z_list), (PySem.W.mg_none_of X G z_len), (PySem.W.mg_none_of X G z_any), (PySem.W.mg_none_of X G z_sorted), (PySem.W.mg_none_of X G z_range), (fun t => by cases t; exact q_int0; exact q_int1; exact q_int2; exact q_int3; exact q_int4; exact q_int5; exact q_int6), (fun t => by cases t; exact q_bool0; exact q_bool1; exact q_bool2; exact q_bool3; exact q_bool4; exact q_bool5; exact q_bool6), (fun t => by cases t; exact q_str0; exact q_str1; exact q_str2; exact q_str3; exact q_str4; exact q_str5; exact q_str6), (fun t => by cases t; exact q_tuple0; exact q_tuple1; exact q_tuple2; exact q_tuple3; exact q_tuple4; exact q_tuple5; exact q_tuple6)⟩
  have Zs : Ns K mg := ⟨⟨_, PySem.W.mg_of X G g_WIDE⟩, ⟨_, PySem.W.mg_of X G g_HIGH⟩, ⟨_, PySem.W.mg_of X G g_MOST_WORDS⟩, ⟨_, PySem.W.mg_of X G g_ACROSS⟩, (PySem.W.mg_none_of X G z_len), (PySem.W.mg_none_of X G z_isinstance), (PySem.W.mg_none_of X G z_list), (PySem.W.mg_none_of X G z_all), (PySem.W.mg_none_of X G z_max), (PySem.W.mg_none_of X G z_reversed), kt6, kt7, kt8, kt9, kt10, kt11⟩
  have ZK : Kinds K mg C0 C1 C2 C3 C4 C5 C6 C7 C8 C9 := ⟨PySem.W.mg_of X G C0m, PySem.W.mg_of X G C1m, PySem.W.mg_of X G C2m, PySem.W.mg_of X G C3m, PySem.W.mg_of X G C4m, PySem.W.mg_of X G C5m, PySem.W.mg_of X G C6m, PySem.W.mg_of X G C7m, PySem.W.mg_of X G C8m, PySem.W.mg_of X G C9m, (PySem.W.mg_none_of X G z_ValueError), xc0, ⟨xc7, up7, qk77, qk76, qk74, qv7, qA7⟩, ⟨xc6, up6, qk67, qk66, qk64, qv6, qA6⟩, ⟨xc4, up4, qk47, qk46, qk44, qv4, qA4⟩⟩
  refine ⟨PySem.W.fnOf "law" "law" (defArgs sLaw) (defBody sLaw) (defScope sLaw) .none kV40 dc40 pm40 an40 cd40 ct40, fun s v => .of_eq rfl, fun base B _ => ?_⟩
  have Y0 : Callee l.prog w K mg base CX0 1 "is_sign" f0 _ ["sign"] spSign := ⟨ok_sign F0 Z, PySem.W.mg_of X G a0, k0, F0.binds fun _ _ _ _ _ _ us hl => bl1 (p := fun us => bindArgs _ ⟨us, []⟩ = pure (List.zip _ us)) hl fun _ => rfl⟩
  have Y1 : Callee l.prog w K mg base CX0 2 "is_word" f1 _ ["thing"] spWord := ⟨ok_word F1 Z Y0, PySem.W.mg_of X G a1, k1, F1.binds fun _ _ _ _ _ _ us hl => bl1 (p := fun us => bindArgs _ ⟨us, []⟩ = pure (List.zip _ us)) hl fun _ => rfl⟩
  have Y2 : Callee l.prog w K mg base CX0 3 "are_words" f2 _ ["things"] spAre := ⟨ok_are F2 Z Y1, PySem.W.mg_of X G a2, k2, F2.binds fun _ _ _ _ _ _ us hl => bl1 (p := fun us => bindArgs _ ⟨us, []⟩ = pure (List.zip _ us)) hl fun _ => rfl⟩
  have Y3 : Callee l.prog w K mg base (CXE l.prog w) 4 "refuse_no_words" f3 _ ["things"] (spRefuse C6) := ⟨ok_refuse F3 ⟨PySem.W.mg_of X G C6m, ex6⟩ Y2, PySem.W.mg_of X G a3, k3, F3.binds fun _ _ _ _ _ _ us hl => bl1 (p := fun us => bindArgs _ ⟨us, []⟩ = pure (List.zip _ us)) hl fun _ => rfl⟩
  have Y4 : Callee l.prog w K mg base CX0 1 "taken" f4 _ ["words", "wide"] spTaken := ⟨ok_taken F4 (PySem.W.mg_none_of X G z_len), PySem.W.mg_of X G a4, k4, F4.binds fun _ _ _ _ _ _ us hl => bl2 (p := fun us => bindArgs _ ⟨us, []⟩ = pure (List.zip _ us)) hl fun _ _ => rfl⟩
  have Y5 : Callee l.prog w K mg base CX0 1 "with_next_word" f5 _ ["row", "behind"] spWith := ⟨ok_with F5 (PySem.W.mg_none_of X G z_len), PySem.W.mg_of X G a5, k5, F5.binds fun _ _ _ _ _ _ us hl => bl2 (p := fun us => bindArgs _ ⟨us, []⟩ = pure (List.zip _ us)) hl fun _ _ => rfl⟩
  have Y6 : Callee l.prog w K mg base CX0 2 "next_width" f6 _ ["rows"] spNext := ⟨ok_next F6 (PySem.W.mg_none_of X G z_min) (PySem.W.mg_none_of X G z_zip) Y5, PySem.W.mg_of X G a6, k6, F6.binds fun _ _ _ _ _ _ us hl => bl1 (p := fun us => bindArgs _ ⟨us, []⟩ = pure (List.zip _ us)) hl fun _ => rfl⟩
  have Y7 : Callee l.prog w K mg base (CXE l.prog w) 5 "text_stairs" f7 _ ["words"] (spStairs C6) := ⟨ok_stairs F7 (PySem.W.mg_none_of X G z_len) (PySem.W.mg_none_of X G z_max) Y3 Y4 Y6, PySem.W.mg_of X G a7, k7, F7.binds fun _ _ _ _ _ _ us hl => bl1 (p := fun us => bindArgs _ ⟨us, []⟩ = pure (List.zip _ us)) hl fun _ => rfl⟩
  have Y8 : Callee l.prog w K mg base CX0 1 "is_whole" f8 _ ["thing"] spWhole := ⟨ok_whole F8 Zt, PySem.W.mg_of X G a8, k8, F8.binds fun _ _ _ _ _ _ us hl => bl1 (p := fun us => bindArgs _ ⟨us, []⟩ = pure (List.zip _ us)) hl fun _ => rfl⟩
  have Y9 : Callee l.prog w K mg base CX0 1 "has_kind" f9 _ ["thing"] spHas := ⟨ok_has F9 Zt, PySem.W.mg_of X G a9, k9, F9.binds fun _ _ _ _ _ _ us hl => bl1 (p := fun us => bindArgs _ ⟨us, []⟩ = pure (List.zip _ us)) hl fun _ => rfl⟩
  have Y10 : Callee l.prog w K mg base CX0 2 "is_branch" f10 _ ["thing"] spBr := ⟨ok_br F10 Zt Y9, PySem.W.mg_of X G a10, k10, F10.binds fun _ _ _ _ _ _ us hl => bl1 (p := fun us => bindArgs _ ⟨us, []⟩ = pure (List.zip _ us)) hl fun _ => rfl⟩
  have Y11 : Callee l.prog w K mg base CX0 4 "numbers_in" f11 _ ["thing"] spNum := ⟨ok_num F11 Zt Y8 Y10, PySem.W.mg_of X G a11, k11, F11.binds fun _ _ _ _ _ _ us hl => bl1 (p := fun us => bindArgs _ ⟨us, []⟩ = pure (List.zip _ us)) hl fun _ => rfl⟩
  have Y12 : Callee l.prog w K mg base CX0 5 "is_tree" f12 _ ["thing"] spTree := ⟨ok_tree F12 Zt Y11, PySem.W.mg_of X G a12, k12, F12.binds fun _ _ _ _ _ _ us hl => bl1 (p := fun us => bindArgs _ ⟨us, []⟩ = pure (List.zip _ us)) hl fun _ => rfl⟩
  have Y13 : Callee l.prog w K mg base (CXE l.prog w) 6 "refuse_no_tree" f13 _ ["thing"] (spRefT C4) := ⟨ok_refT F13 ⟨PySem.W.mg_of X G C4m, ex4⟩ Y12, PySem.W.mg_of X G a13, k13, F13.binds fun _ _ _ _ _ _ us hl => bl1 (p := fun us => bindArgs _ ⟨us, []⟩ = pure (List.zip _ us)) hl fun _ => rfl⟩
  have Y14 : Callee l.prog w K mg base (CXE l.prog w) 7 "boxes_of" f14 _ ["tree"] (spBoxes C4) := ⟨ok_boxes F14 (PySem.W.mg_none_of X G z_len) Y13 Y11, PySem.W.mg_of X G a14, k14, F14.binds fun _ _ _ _ _ _ us hl => bl1 (p := fun us => bindArgs _ ⟨us, []⟩ = pure (List.zip _ us)) hl fun _ => rfl⟩
  have Y15 : Callee l.prog w K mg base CX0 4 "is_text" f15 _ ["thing"] spText := ⟨ok_text F15 Zs Y2, PySem.W.mg_of X G a15, k15, F15.binds fun _ _ _ _ _ _ us hl => bl1 (p := fun us => bindArgs _ ⟨us, []⟩ = pure (List.zip _ us)) hl fun _ => rfl⟩
  have Y16 : Callee l.prog w K mg base (CXE l.prog w) 8 "refuse_no_texts" f16 _ ["tree", "texts"] (spRTx C4 C6) := ⟨ok_rtx F16 Zs ⟨PySem.W.mg_of X G C6m, ex6⟩ Y14 Y15, PySem.W.mg_of X G a16, k16, F16.binds fun _ _ _ _ _ _ us hl => bl2 (p := fun us => bindArgs _ ⟨us, []⟩ = pure (List.zip _ us)) hl fun _ _ => rfl⟩
  have Y17 : Callee l.prog w K mg base CX0 1 "side_by_side" f17 _ ["one", "other"] spSbs := ⟨ok_sbs F17 Zs, PySem.W.mg_of X G a17, k17, F17.binds fun _ _ _ _ _ _ us hl => bl2 (p := fun us => bindArgs _ ⟨us, []⟩ = pure (List.zip _ us)) hl fun _ _ => rfl⟩
  have Y18 : Callee l.prog w K mg base CX0 2 "all_side_by_side" f18 _ ["parts"] spAll := ⟨ok_all F18 Y17, PySem.W.mg_of X G a18, k18, F18.binds fun _ _ _ _ _ _ us hl => bl1 (p := fun us => bindArgs _ ⟨us, []⟩ = pure (List.zip _ us)) hl fun _ => rfl⟩
  have Y19 : Callee l.prog w K mg base CX0 1 "exchanged" f19 _ ["stairs"] spExch := ⟨ok_exch F19 Zs, PySem.W.mg_of X G a19, k19, F19.binds fun _ _ _ _ _ _ us hl => bl1 (p := fun us => bindArgs _ ⟨us, []⟩ = pure (List.zip _ us)) hl fun _ => rfl⟩
  have Y20 : Callee l.prog w K mg base CX0 6 "box_stairs" f20 _ ["texts"] spBst := ⟨ok_bst F20 Y7, PySem.W.mg_of X G a20, k20, F20.binds fun _ _ _ _ _ _ us hl => bl1 (p := fun us => bindArgs _ ⟨us, []⟩ = pure (List.zip _ us)) hl fun _ => rfl⟩
  have Y21 : Callee l.prog w K mg base CX0 27 "stairs_of" f21 _ ["tree", "boxes"] (spSo 24) := ⟨ok_so F21 ⟨_, PySem.W.mg_of X G g_KIND⟩ ⟨_, PySem.W.mg_of X G g_PARTS⟩ Zs Y8 Y18 Y19 (PySem.W.mg_of X G a21) k21 (F21.binds fun _ _ _ _ _ _ us hl => bl2 (p := fun us => bindArgs _ ⟨us, []⟩ = pure (List.zip _ us)) hl fun _ _ => rfl) 24, PySem.W.mg_of X G a21, k21, F21.binds fun _ _ _ _ _ _ us hl => bl2 (p := fun us => bindArgs _ ⟨us, []⟩ = pure (List.zip _ us)) hl fun _ _ => rfl⟩
  have Y22 : Callee l.prog w K mg base (CXE l.prog w) 28 "tree_stairs" f22 _ ["tree", "texts"] (spTst C4 C6) := ⟨ok_tst F22 Y16 Y21 Y20, PySem.W.mg_of X G a22, k22, F22.binds fun _ _ _ _ _ _ us hl => bl2 (p := fun us => bindArgs _ ⟨us, []⟩ = pure (List.zip _ us)) hl fun _ _ => rfl⟩
  have Y23 : Callee l.prog w K mg base CX0 1 "lowest" f23 _ ["stairs", "wide"] spLow := ⟨ok_low F23 ⟨_, PySem.W.mg_of X G g_WIDE⟩ ⟨_, PySem.W.mg_of X G g_HIGH⟩ (PySem.W.mg_none_of X G z_min), PySem.W.mg_of X G a23, k23, F23.binds fun _ _ _ _ _ _ us hl => bl2 (p := fun us => bindArgs _ ⟨us, []⟩ = pure (List.zip _ us)) hl fun _ _ => rfl⟩
  have Y24 : Callee l.prog w K mg base CX0 1 "narrowest" f24 _ ["stairs", "high"] spNarw := ⟨ok_narw F24 ⟨_, PySem.W.mg_of X G g_WIDE⟩ ⟨_, PySem.W.mg_of X G g_HIGH⟩ (PySem.W.mg_none_of X G z_min), PySem.W.mg_of X G a24, k24, F24.binds fun _ _ _ _ _ _ us hl => bl2 (p := fun us => bindArgs _ ⟨us, []⟩ = pure (List.zip _ us)) hl fun _ _ => rfl⟩
  have Y25 : Callee l.prog w K mg base (CXE l.prog w) 29 "least_high" f25 _ ["tree", "texts", "wide"] (spLh C4 C6) := ⟨ok_lh F25 Y22 Y23, PySem.W.mg_of X G a25, k25, F25.binds fun _ _ _ _ _ _ us hl => bl3 (p := fun us => bindArgs _ ⟨us, []⟩ = pure (List.zip _ us)) hl fun _ _ _ => rfl⟩
  have Y26 : Callee l.prog w K mg base (CXE l.prog w) 29 "least_wide" f26 _ ["tree", "texts", "high"] (spLwide C4 C6) := ⟨ok_lwide F26 Y22 Y24, PySem.W.mg_of X G a26, k26, F26.binds fun _ _ _ _ _ _ us hl => bl3 (p := fun us => bindArgs _ ⟨us, []⟩ = pure (List.zip _ us)) hl fun _ _ _ => rfl⟩
  have Y27 : Callee l.prog w K mg base (CXE l.prog w) 30 "height_in" f27 _ ["tree", "texts", "wide"] (spHin C4 C6 C7) := ⟨ok_hin F27 ⟨PySem.W.mg_of X G C7m, ex7⟩ Y25, PySem.W.mg_of X G a27, k27, F27.binds fun _ _ _ _ _ _ us hl => bl3 (p := fun us => bindArgs _ ⟨us, []⟩ = pure (List.zip _ us)) hl fun _ _ _ => rfl⟩
  have Y28 : Callee l.prog w K mg base (CXE l.prog w) 31 "printed" f28 _ ["tree", "texts", "wide"] (spPrd C4 C6 C7) := ⟨ok_prd F28 ⟨PySem.W.mg_of X G C7m, ex7⟩ ⟨_, PySem.W.mg_of X G g_MOST_WIDE⟩ Y16 Y27, PySem.W.mg_of X G a28, k28, F28.binds fun _ _ _ _ _ _ us hl => bl3 (p := fun us => bindArgs _ ⟨us, []⟩ = pure (List.zip _ us)) hl fun _ _ _ => rfl⟩
  have Y29 : Callee l.prog w K mg base CX0 1 "_law_stir" f29 _ ["cell", "k"] spStir := ⟨ok_stir F29, PySem.W.mg_of X G a29, k29, F29.binds fun _ _ _ _ _ _ us hl => bl2 (p := fun us => bindArgs _ ⟨us, []⟩ = pure (List.zip _ us)) hl fun _ _ => rfl⟩
  have Y30 : Callee l.prog w K mg base CX0 2 "_law_cell" f30 _ ["script", "k"] (spCell K) := ⟨ok_cell F30 (PySem.W.mg_none_of X G z_len) Y29, PySem.W.mg_of X G a30, k30, F30.binds fun _ _ _ _ _ _ us hl => bl2 (p := fun us => bindArgs _ ⟨us, []⟩ = pure (List.zip _ us)) hl fun _ _ => rfl⟩
  have Y31 : Callee l.prog w K mg base CX0 1 "_law_lack" f31 _ ["pile"] spLack := ⟨ok_lack F31 (PySem.W.mg_none_of X G z_len) (PySem.W.mg_none_of X G z_max), PySem.W.mg_of X G a31, k31, F31.binds fun _ _ _ _ _ _ us hl => bl1 (p := fun us => bindArgs _ ⟨us, []⟩ = pure (List.zip _ us)) hl fun _ => rfl⟩
  have Y32 : Callee l.prog w K mg base CX0 2 "_law_shape" f32 _ ["cells", "kind", "most"] spShape := ⟨ok_shape F32 (PySem.W.mg_none_of X G z_len) (PySem.W.mg_none_of X G z_int) (PySem.W.mg_none_of X G z_tuple) Y31, PySem.W.mg_of X G a32, k32, F32.binds fun _ _ _ _ _ _ us hl => bl3 (p := fun us => bindArgs _ ⟨us, []⟩ = pure (List.zip _ us)) hl fun _ _ _ => rfl⟩
  have Y33 : Callee l.prog w K mg base CX0 25 "_law_count" f33 _ ["shape"] (spCount 24) := ⟨ok_count F33 Zt (PySem.W.mg_none_of X G z_sum) (PySem.W.mg_of X G a33) k33 (F33.binds fun _ _ _ _ _ _ us hl => bl1 (p := fun us => bindArgs _ ⟨us, []⟩ = pure (List.zip _ us)) hl fun _ => rfl) 24, PySem.W.mg_of X G a33, k33, F33.binds fun _ _ _ _ _ _ us hl => bl1 (p := fun us => bindArgs _ ⟨us, []⟩ = pure (List.zip _ us)) hl fun _ => rfl⟩
  have Y34 : Callee l.prog w K mg base CX0 25 "_law_numbered" f34 _ ["shape", "left"] (spNmb 24) := ⟨ok_nmb F34 (PySem.W.mg_none_of X G z_tuple) (PySem.W.mg_of X G a34) k34 (F34.binds fun _ _ _ _ _ _ us hl => bl2 (p := fun us => bindArgs _ ⟨us, []⟩ = pure (List.zip _ us)) hl fun _ _ => rfl) 24, PySem.W.mg_of X G a34, k34, F34.binds fun _ _ _ _ _ _ us hl => bl2 (p := fun us => bindArgs _ ⟨us, []⟩ = pure (List.zip _ us)) hl fun _ _ => rfl⟩
  have Y35 : Callee l.prog w K mg base CX0 26 "_law_tree" f35 _ ["script", "first", "most"] (spTre K) := ⟨ok_tre F35 (PySem.W.mg_none_of X G z_len) (PySem.W.mg_none_of X G z_range) (PySem.W.mg_none_of X G z_list) Y32 Y30 Y33 Y34, PySem.W.mg_of X G a35, k35, F35.binds fun _ _ _ _ _ _ us hl => bl3 (p := fun us => bindArgs _ ⟨us, []⟩ = pure (List.zip _ us)) hl fun _ _ _ => rfl⟩
  have Y36 : Callee l.prog w K mg base CX0 1 "_law_word" f36 _ ["cell"] spWd69 := ⟨ok_wd69 F36 (PySem.W.mg_none_of X G z_range), PySem.W.mg_of X G a36, k36, F36.binds fun _ _ _ _ _ _ us hl => bl1 (p := fun us => bindArgs _ ⟨us, []⟩ = pure (List.zip _ us)) hl fun _ => rfl⟩
  have Y37 : Callee l.prog w K mg base CX0 3 "_law_texts" f37 _ ["script", "many"] (spTx69 K) := ⟨ok_tx69 F37 (PySem.W.mg_none_of X G z_range) (PySem.W.mg_none_of X G z_int) Y30 Y29 Y36, PySem.W.mg_of X G a37, k37, F37.binds fun _ _ _ _ _ _ us hl => bl2 (p := fun us => bindArgs _ ⟨us, []⟩ = pure (List.zip _ us)) hl fun _ _ => rfl⟩
  have Y38 : Callee l.prog w K mg base CX0 32 "_law_refused" f38 _ ["tree", "texts", "wide", "way"] spRfd := ⟨ok_rfd F38 (PySem.W.mg_none_of X G z_isinstance) ZK Y28, PySem.W.mg_of X G a38, k38, F38.binds fun _ _ _ _ _ _ us hl => bl4 (p := fun us => bindArgs _ ⟨us, []⟩ = pure (List.zip _ us)) hl fun _ _ _ _ => rfl⟩
  have Y39 : Callee l.prog w K mg base CX0 1 "_law_bad" f39 _ ["texts", "cell"] spBadT := ⟨ok_badT F39 (PySem.W.mg_none_of X G z_len), PySem.W.mg_of X G a39, k39, F39.binds fun _ _ _ _ _ _ us hl => bl2 (p := fun us => bindArgs _ ⟨us, []⟩ = pure (List.zip _ us)) hl fun _ _ => rfl⟩
  exact ok_law F40 (PySem.W.mg_none_of X G z_list) Y35 Y37 Y33 Y30 Y26 Y38 Y39
end JH
theorem PySem.W.Fast.tw8496329227809651890 : True := True.intro
theorem PySem.W.Fast.te12327127279054669037 : True := True.intro
theorem PySem.W.Fast.tw9107326151851593733 : True := True.intro
theorem PySem.W.Fast.tw12642110876004260968 : True := True.intro
theorem PySem.W.Fast.tw1330329048554519793 : True := True.intro
theorem PySem.W.Fast.tw7673780636926442170 : True := True.intro
theorem PySem.W.Fast.tw9405885340727314544 : True := True.intro
theorem PySem.W.Fast.tw18444616579695011471 : True := True.intro
theorem PySem.W.Fast.tw7600663260694915507 : True := True.intro
theorem PySem.W.Fast.tw6174988951705600852 : True := True.intro
theorem PySem.W.Fast.tw3776618247613660494 : True := True.intro
theorem PySem.W.Fast.tw10968343723961233293 : True := True.intro
theorem PySem.W.Fast.tw7265833528474779842 : True := True.intro
theorem PySem.W.Fast.tw10748829432843665599 : True := True.intro
theorem PySem.W.Fast.tw17664863644542990336 : True := True.intro
theorem PySem.W.Fast.tw14406062444881864206 : True := True.intro
theorem PySem.W.Fast.tw15619776171102414657 : True := True.intro
theorem PySem.W.Fast.tw8157266984606287511 : True := True.intro
theorem PySem.W.Fast.tw947954794870632587 : True := True.intro
theorem PySem.W.Fast.tw17618093813090354813 : True := True.intro
theorem PySem.W.Fast.tw12341583741588489524 : True := True.intro
theorem PySem.W.Fast.tw3040488214969545267 : True := True.intro
theorem PySem.W.Fast.tw1931165966516779579 : True := True.intro
theorem PySem.W.Fast.tw10329643764966042129 : True := True.intro
theorem PySem.W.Fast.tw12637021554121461771 : True := True.intro
theorem PySem.W.Fast.tw17085671453672710441 : True := True.intro
theorem PySem.W.Fast.tw11658411954274327599 : True := True.intro
theorem PySem.W.Fast.tw1953811391193941621 : True := True.intro
theorem PySem.W.Fast.tw1887064024620131343 : True := True.intro
theorem PySem.W.Fast.tw15186753845491677264 : True := True.intro
theorem PySem.W.Fast.tw11660301672518269311 : True := True.intro
theorem PySem.W.Fast.tw5620253085979579115 : True := True.intro
theorem PySem.W.Fast.tw16292628761840142561 : True := True.intro
theorem PySem.W.Fast.tw15151793701111495285 : True := True.intro
theorem PySem.W.Fast.tw1754306027791273876 : True := True.intro
theorem PySem.W.Fast.tw3664044207664300516 : True := True.intro
theorem PySem.W.Fast.tw12451362858405127694 : True := True.intro
theorem PySem.W.Fast.tw5750212086198546189 : True := True.intro
theorem PySem.W.Fast.tw15753117972554138924 : True := True.intro
theorem PySem.W.Fast.tw4257983371447615659 : True := True.intro
theorem PySem.W.Fast.tw9441138087232892667 : True := True.intro
theorem PySem.W.Fast.tw9637831643661904937 : True := True.intro
theorem PySem.W.Fast.tw17697401957980756365 : True := True.intro
theorem PySem.W.Fast.tw15310592381391029318 : True := True.intro
theorem PySem.W.Fast.tw6549221509342714592 : True := True.intro
theorem PySem.W.Fast.tw899825009935187589 : True := True.intro
theorem PySem.W.Fast.tw2952574865479269153 : True := True.intro
theorem PySem.W.Fast.tw6789002942180642740 : True := True.intro
theorem PySem.W.Fast.tw13864580239157772392 : True := True.intro
theorem PySem.W.Fast.tw1119233854306931981 : True := True.intro
theorem PySem.W.Fast.tw2572260543393137246 : True := True.intro
theorem PySem.W.Fast.tw2007622132544409222 : True := True.intro
theorem PySem.W.Fast.tw15115851825792037478 : True := True.intro
theorem PySem.W.Fast.tw9347013685647875129 : True := True.intro
theorem PySem.W.Fast.tw3101226056123400473 : True := True.intro
theorem PySem.W.Fast.tw7529418120706407722 : True := True.intro
theorem PySem.W.Fast.tw9774384232497156045 : True := True.intro
theorem PySem.W.Fast.tw3580242328111791648 : True := True.intro
theorem PySem.W.Fast.tw9907671598843437474 : True := True.intro
theorem PySem.W.Fast.tw17701437493503854028 : True := True.intro
theorem PySem.W.Fast.tw7728167986979987466 : True := True.intro
theorem PySem.W.Fast.tw5829554188585392009 : True := True.intro
theorem PySem.W.Fast.tw12844164832288185451 : True := True.intro
theorem PySem.W.Fast.tw14074908134626198319 : True := True.intro
theorem PySem.W.Fast.tw6742059856718539472 : True := True.intro
theorem PySem.W.Fast.tw12242067446822921955 : True := True.intro
theorem PySem.W.Fast.tw16758157686521967503 : True := True.intro
theorem PySem.W.Fast.tw4994662488268077006 : True := True.intro
theorem PySem.W.Fast.tw14645746589896661600 : True := True.intro
theorem PySem.W.Fast.tw12916834937708291790 : True := True.intro
theorem PySem.W.Fast.tw10909664616048250207 : True := True.intro
theorem PySem.W.Fast.tw13016499793531484520 : True := True.intro
theorem PySem.W.Fast.tw8191388864583389277 : True := True.intro
theorem PySem.W.Fast.tw17844815863503356122 : True := True.intro
theorem PySem.W.Fast.tw4680167766759193137 : True := True.intro
theorem PySem.W.Fast.tw16755360039826036106 : True := True.intro
theorem PySem.W.Fast.tw11046959523633354348 : True := True.intro
theorem PySem.W.Fast.tw4948085783851928152 : True := True.intro
theorem PySem.W.Fast.tw4002119129906224157 : True := True.intro
theorem PySem.W.Fast.tw6082706104534003089 : True := True.intro
theorem PySem.W.Fast.tw6807358178710995471 : True := True.intro
theorem PySem.W.Fast.tw3286960279443175596 : True := True.intro
theorem PySem.W.Fast.tw3623980261903926064 : True := True.intro
theorem PySem.W.Fast.tw7372028510259856547 : True := True.intro
theorem PySem.W.Fast.tw6373893845870840391 : True := True.intro
theorem PySem.W.Fast.tw9294139327527890229 : True := True.intro
theorem PySem.W.Fast.tw1091754929545659116 : True := True.intro
theorem PySem.W.Fast.tw5787504757667364466 : True := True.intro
theorem PySem.W.Fast.tw11204825324830445822 : True := True.intro
theorem PySem.W.Fast.tw12129807178992816287 : True := True.intro
theorem PySem.W.Fast.tw16971469981822503737 : True := True.intro
theorem PySem.W.Fast.tw7631105419146204230 : True := True.intro
theorem PySem.W.Fast.tw16493326636459881288 : True := True.intro
theorem PySem.W.Fast.tw4375157114630760718 : True := True.intro
theorem PySem.W.Fast.tw11525222399515431994 : True := True.intro
theorem PySem.W.Fast.tw16308866627529368975 : True := True.intro
theorem PySem.W.Fast.tw6819877240041643907 : True := True.intro
theorem PySem.W.Fast.tw219517380756425126 : True := True.intro
theorem PySem.W.Fast.tw13567924977040427797 : True := True.intro
theorem PySem.W.Fast.tw8927047739282566854 : True := True.intro
theorem PySem.W.Fast.tw18156424587812444012 : True := True.intro
theorem PySem.W.Fast.tw9672620137165957739 : True := True.intro
theorem PySem.W.Fast.tw17735369096654958193 : True := True.intro
theorem PySem.W.Fast.tw3935667720982220431 : True := True.intro
theorem PySem.W.Fast.tw6618249943831983518 : True := True.intro
theorem PySem.W.Fast.tw2897915113155502682 : True := True.intro
theorem PySem.W.Fast.tw2469071472705315292 : True := True.intro
theorem PySem.W.Fast.tw16755083947587864216 : True := True.intro
theorem PySem.W.Fast.tw14389838943436301034 : True := True.intro
theorem PySem.W.Fast.tw14731553206897035562 : True := True.intro
theorem PySem.W.Fast.tw17437776459354050315 : True := True.intro
theorem PySem.W.Fast.tw5949884326359217370 : True := True.intro
theorem PySem.W.Fast.tw14227180826432863422 : True := True.intro
theorem PySem.W.Fast.tw4876158062042169587 : True := True.intro
theorem PySem.W.Fast.tw9881888590485515600 : True := True.intro
theorem PySem.W.Fast.tw7359976392460862347 : True := True.intro
theorem PySem.W.Fast.tw11009892525682026093 : True := True.intro
theorem PySem.W.Fast.tw13218539073780426072 : True := True.intro
theorem PySem.W.Fast.tw12901221680656031531 : True := True.intro
theorem PySem.W.Fast.tw16821911409007546409 : True := True.intro
theorem PySem.W.Fast.tw4039054253753547884 : True := True.intro
theorem PySem.W.Fast.tw16115771467242882099 : True := True.intro
theorem PySem.W.Fast.tw13319057556077421255 : True := True.intro
theorem PySem.W.Fast.tw14269150825951416534 : True := True.intro
theorem PySem.W.Fast.tw5709436442405940600 : True := True.intro
theorem PySem.W.Fast.tw11551720200315515903 : True := True.intro
theorem PySem.W.Fast.tw16005627678115232330 : True := True.intro
theorem PySem.W.Fast.tw17892579881257531519 : True := True.intro
theorem PySem.W.Fast.tw15482778585223177236 : True := True.intro
theorem PySem.W.Fast.tw5573126069525734818 : True := True.intro
theorem PySem.W.Fast.tw1392544221279643864 : True := True.intro
theorem PySem.W.Fast.tw14680325252620992194 : True := True.intro
theorem PySem.W.Fast.tw14865899959976870512 : True := True.intro
theorem PySem.W.Fast.tw4770090260750801240 : True := True.intro
theorem PySem.W.Fast.tw318651382014521682 : True := True.intro
theorem PySem.W.Fast.tw143446679068912493 : True := True.intro
theorem PySem.W.Fast.tw1279424198644044784 : True := True.intro
theorem PySem.W.Fast.tw2344614754096047553 : True := True.intro
theorem PySem.W.Fast.tw4772693793707572101 : True := True.intro
theorem PySem.W.Fast.tw16506845790567071402 : True := True.intro
theorem PySem.W.Fast.tw1116494109525345981 : True := True.intro
theorem PySem.W.Fast.tw10532986313447449714 : True := True.intro
theorem PySem.W.Fast.tw10200268848477329745 : True := True.intro
theorem PySem.W.Fast.tw5855651563155446710 : True := True.intro
theorem PySem.W.Fast.tw1352680956758852096 : True := True.intro
theorem PySem.W.Fast.tw10824191946508859955 : True := True.intro
theorem PySem.W.Fast.tw17772277641950283435 : True := True.intro
theorem PySem.W.Fast.tw10149490649889507300 : True := True.intro
theorem PySem.W.Fast.tw6431615819585320473 : True := True.intro
theorem PySem.W.Fast.tw16547495677105473983 : True := True.intro
theorem PySem.W.Fast.tw18400956886690600454 : True := True.intro
theorem PySem.W.Fast.tw3236373730330590534 : True := True.intro
theorem PySem.W.Fast.tw1791696525627721255 : True := True.intro
theorem PySem.W.Fast.tw176943748131005202 : True := True.intro
theorem PySem.W.Fast.tw6835527855886455805 : True := True.intro
theorem PySem.W.Fast.tw7927783693866154713 : True := True.intro
theorem PySem.W.Fast.tw5554583376124556664 : True := True.intro
theorem PySem.W.Fast.tw17161303722529963211 : True := True.intro
theorem PySem.W.Fast.tw12888702992666882903 : True := True.intro
theorem PySem.W.Fast.tw16502388219192842712 : True := True.intro
theorem PySem.W.Fast.tw8724291119793643094 : True := True.intro
theorem PySem.W.Fast.tw14910518496726043328 : True := True.intro
theorem PySem.W.Fast.tw2373351793925165618 : True := True.intro
theorem PySem.W.Fast.tw12299818997570583110 : True := True.intro
theorem PySem.W.Fast.tw13796109095390392139 : True := True.intro
theorem PySem.W.Fast.tw11826166787956796633 : True := True.intro
theorem PySem.W.Fast.tw4983187856526712452 : True := True.intro
theorem PySem.W.Fast.tw17659663515345893236 : True := True.intro
theorem PySem.W.Fast.tw18138389484028984374 : True := True.intro
theorem PySem.W.Fast.tw13309866172425814120 : True := True.intro
theorem PySem.W.Fast.tw4665808137093027869 : True := True.intro
theorem PySem.W.Fast.tw4554844660169314824 : True := True.intro
theorem PySem.W.Fast.tw12915674611657819484 : True := True.intro
theorem PySem.W.Fast.tw7933549653497314424 : True := True.intro
theorem PySem.W.Fast.tw11862447348125744824 : True := True.intro
theorem PySem.W.Fast.tw12484890170996382870 : True := True.intro
theorem PySem.W.Fast.tw4162890785440167848 : True := True.intro
theorem PySem.W.Fast.tw2718738960222089091 : True := True.intro
theorem PySem.W.Fast.tw1035353831625136864 : True := True.intro
open PySem PySem.W PyProof.Rows
set_option maxRecDepth 100000 in
set_option maxHeartbeats 0 in
theorem PySem.Challenge.cw_pagepart_k69_printing_refused_holds : PySem.Challenge.rw_pagepart_k69_printing_refused.Holds := by
  w_on; o_law; k_head; (case hw => w_witness2)
  k_fill
  refine L2.walk_ofK (l := PySem.Challenge.rw_pagepart_k69_printing_refused) (n := 63) (k := 33) (x := "script") (CX := L2.CX0) (sp := fun K => JH.spLaw K) rfl (by decide) rfl ⟨rfl, by decide, by decide⟩ (fun w h Y => PySem.W.kIn_of Y) ?F (fun K H a ns hl hO hS => ⟨a, ns, rfl, hS, hl, fun _ => rfl⟩) fun _ _ _ _ z => z
  case F =>
    intro w mg fa h KX G hmg 
    refine' _root_.JH.all_mk KX G hmg  ?a0 ?l0 ?c0 ?k0 ?a1 ?l1 ?c1 ?k1 ?a2 ?l2 ?c2 ?k2 ?a3 ?l3 ?c3 ?k3 ?a4 ?l4 ?c4 ?k4 ?a5 ?l5 ?c5 ?k5 ?a6 ?l6 ?c6 ?k6 ?a7 ?l7 ?c7 ?k7 ?a8 ?l8 ?c8 ?k8 ?a9 ?l9 ?c9 ?k9 ?a10 ?l10 ?c10 ?k10 ?a11 ?l11 ?c11 ?k11 ?a12 ?l12 ?c12 ?k12 ?a13 ?l13 ?c13 ?k13 ?a14 ?l14 ?c14 ?k14 ?a15 ?l15 ?c15 ?k15 ?a16 ?l16 ?c16 ?k16 ?a17 ?l17 ?c17 ?k17 ?a18 ?l18 ?c18 ?k18 ?a19 ?l19 ?c19 ?k19 ?a20 ?l20 ?c20 ?k20 ?a21 ?l21 ?c21 ?k21 ?a22 ?l22 ?c22 ?k22 ?a23 ?l23 ?c23 ?k23 ?a24 ?l24 ?c24 ?k24 ?a25 ?l25 ?c25 ?k25 ?a26 ?l26 ?c26 ?k26 ?a27 ?l27 ?c27 ?k27 ?a28 ?l28 ?c28 ?k28 ?a29 ?l29 ?c29 ?k29 ?a30 ?l30 ?c30 ?k30 ?a31 ?l31 ?c31 ?k31 ?a32 ?l32 ?c32 ?k32 ?a33 ?l33 ?c33 ?k33 ?a34 ?l34 ?c34 ?k34 ?a35 ?l35 ?c35 ?k35 ?a36 ?l36 ?c36 ?k36 ?a37 ?l37 ?c37 ?k37 ?a38 ?l38 ?c38 ?k38 ?a39 ?l39 ?c39 ?k39 ?a40 ?l40 ?c40 ?k40 ?C0m ?C1m ?C2m ?C3m ?C4m ?C5m ?C6m ?C7m ?C8m ?C9m ?z_len ?z_range ?z_min ?z_max ?z_sum ?z_zip ?z_isinstance ?z_int ?z_bool ?z_str ?z_tuple ?z_list ?z_all ?z_any ?z_ord ?z_sorted ?z_reversed ?z_ValueError ?g_LEFT_OUT ?g_MOST_SIGNS ?g_KIND ?g_PARTS ?g_MOST_BOXES ?g_WIDE ?g_HIGH ?g_MOST_WORDS ?g_LEFT ?g_TOP ?g_RIGHT ?g_BELOW ?g_MOST_WIDE ?g_ACROSS ?ex4 ?ex6 ?ex7 ?e0a ?e0b ?e0c ?e0f ?e0g ?e0h ?e0i ?e4a ?e4b ?e4c ?e4f ?e4g ?e4h ?e4i ?e6a ?e6b ?e6c ?e6f ?e6g ?e6h ?e6i ?e7a ?e7b ?e7c ?e7f ?e7g ?e7h ?e7i ?ed ?ee ?hKINDS ?lkK ?kt0 ?kt1 ?kt2 ?kt3 ?kt4 ?kt5 ?kt6 ?kt7 ?kt8 ?kt9 ?kt10 ?q_int0 ?q_int1 ?q_int2 ?q_int3 ?q_int4 ?q_int5 ?q_int6 ?q_bool0 ?q_bool1 ?q_bool2 ?q_bool3 ?q_bool4 ?q_bool5 ?q_bool6 ?q_str0 ?q_str1 ?q_str2 ?q_str3 ?q_str4 ?q_str5 ?q_str6 ?q_tuple0 ?q_tuple1 ?q_tuple2 ?q_tuple3 ?q_tuple4 ?q_tuple5 ?q_tuple6 ?kt11 ?up4 ?qk44 ?qk46 ?qk47 ?qv4 ?qA4 ?up6 ?qk64 ?qk66 ?qk67 ?qv6 ?qA6 ?up7 ?qk74 ?qk76 ?qk77 ?qv7 ?qA7
    (case a0 => k_is)
    (case l0 => k_is)
    (case c0 => k_is)
    (case k0 => k_is)
    (case a1 => k_is)
    (case l1 => k_is)
    (case c1 => k_is)
    (case k1 => k_is)
    (case a2 => k_is)
    (case l2 => k_is)
    (case c2 => k_is)
    (case k2 => k_is)
    (case a3 => k_is)
    (case l3 => k_is)
    (case c3 => k_is)
    (case k3 => k_is)
    (case a4 => k_is)
    (case l4 => k_is)
    (case c4 => k_is)
    (case k4 => k_is)
    (case a5 => k_is)
    (case l5 => k_is)
    (case c5 => k_is)
    (case k5 => k_is)
    (case a6 => k_is)
    (case l6 => k_is)
    (case c6 => k_is)
    (case k6 => k_is)
    (case a7 => k_is)
    (case l7 => k_is)
    (case c7 => k_is)
    (case k7 => k_is)
    (case a8 => k_is)
    (case l8 => k_is)
    (case c8 => k_is)
    (case k8 => k_is)
    (case a9 => k_is)
    (case l9 => k_is)
    (case c9 => k_is)
    (case k9 => k_is)
    (case a10 => k_is)
    (case l10 => k_is)
    (case c10 => k_is)
    (case k10 => k_is)
    (case a11 => k_is)
    (case l11 => k_is)
    (case c11 => k_is)
    (case k11 => k_is)
    (case a12 => k_is)
    (case l12 => k_is)
    (case c12 => k_is)
    (case k12 => k_is)
    (case a13 => k_is)
    (case l13 => k_is)
    (case c13 => k_is)
    (case k13 => k_is)
    (case a14 => k_is)
    (case l14 => k_is)
    (case c14 => k_is)
    (case k14 => k_is)
    (case a15 => k_is)
    (case l15 => k_is)
    (case c15 => k_is)
    (case k15 => k_is)
    (case a16 => k_is)
    (case l16 => k_is)
    (case c16 => k_is)
    (case k16 => k_is)
    (case a17 => k_is)
    (case l17 => k_is)
    (case c17 => k_is)
    (case k17 => k_is)
    (case a18 => k_is)
    (case l18 => k_is)
    (case c18 => k_is)
    (case k18 => k_is)
    (case a19 => k_is)
    (case l19 => k_is)
    (case c19 => k_is)
    (case k19 => k_is)
    (case a20 => k_is)
    (case l20 => k_is)
    (case c20 => k_is)
    (case k20 => k_is)
    (case a21 => k_is)
    (case l21 => k_is)
    (case c21 => k_is)
    (case k21 => k_is)
    (case a22 => k_is)
    (case l22 => k_is)
    (case c22 => k_is)
    (case k22 => k_is)
    (case a23 => k_is)
    (case l23 => k_is)
    (case c23 => k_is)
    (case k23 => k_is)
    (case a24 => k_is)
    (case l24 => k_is)
    (case c24 => k_is)
    (case k24 => k_is)
    (case a25 => k_is)
    (case l25 => k_is)
    (case c25 => k_is)
    (case k25 => k_is)
    (case a26 => k_is)
    (case l26 => k_is)
    (case c26 => k_is)
    (case k26 => k_is)
    (case a27 => k_is)
    (case l27 => k_is)
    (case c27 => k_is)
    (case k27 => k_is)
    (case a28 => k_is)
    (case l28 => k_is)
    (case c28 => k_is)
    (case k28 => k_is)
    (case a29 => k_is)
    (case l29 => k_is)
    (case c29 => k_is)
    (case k29 => k_is)
    (case a30 => k_is)
    (case l30 => k_is)
    (case c30 => k_is)
    (case k30 => k_is)
    (case a31 => k_is)
    (case l31 => k_is)
    (case c31 => k_is)
    (case k31 => k_is)
    (case a32 => k_is)
    (case l32 => k_is)
    (case c32 => k_is)
    (case k32 => k_is)
    (case a33 => k_is)
    (case l33 => k_is)
    (case c33 => k_is)
    (case k33 => k_is)
    (case a34 => k_is)
    (case l34 => k_is)
    (case c34 => k_is)
    (case k34 => k_is)
    (case a35 => k_is)
    (case l35 => k_is)
    (case c35 => k_is)
    (case k35 => k_is)
    (case a36 => k_is)
    (case l36 => k_is)
    (case c36 => k_is)
    (case k36 => k_is)
    (case a37 => k_is)
    (case l37 => k_is)
    (case c37 => k_is)
    (case k37 => k_is)
    (case a38 => k_is)
    (case l38 => k_is)
    (case c38 => k_is)
    (case k38 => k_is)
    (case a39 => k_is)
    (case l39 => k_is)
    (case c39 => k_is)
    (case k39 => k_is)
    (case a40 => k_is)
    (case l40 => k_is)
    (case c40 => k_is)
    (case k40 => k_is)
    (case C0m => k_is)
    (case C1m => k_is)
    (case C2m => k_is)
    (case C3m => k_is)
    (case C4m => k_is)
    (case C5m => k_is)
    (case C6m => k_is)
    (case C7m => k_is)
    (case C8m => k_is)
    (case C9m => k_is)
    (case z_len => k_is)
    (case z_range => k_is)
    (case z_min => k_is)
    (case z_max => k_is)
    (case z_sum => k_is)
    (case z_zip => k_is)
    (case z_isinstance => k_is)
    (case z_int => k_is)
    (case z_bool => k_is)
    (case z_str => k_is)
    (case z_tuple => k_is)
    (case z_list => k_is)
    (case z_all => k_is)
    (case z_any => k_is)
    (case z_ord => k_is)
    (case z_sorted => k_is)
    (case z_reversed => k_is)
    (case z_ValueError => k_is)
    (case g_LEFT_OUT => k_is)
    (case g_MOST_SIGNS => k_is)
    (case g_KIND => k_is)
    (case g_PARTS => k_is)
    (case g_MOST_BOXES => k_is)
    (case g_WIDE => k_is)
    (case g_HIGH => k_is)
    (case g_MOST_WORDS => k_is)
    (case g_LEFT => k_is)
    (case g_TOP => k_is)
    (case g_RIGHT => k_is)
    (case g_BELOW => k_is)
    (case g_MOST_WIDE => k_is)
    (case g_ACROSS => k_is)
    (case ex4 => kernel_rfl)
    (case ex6 => kernel_rfl)
    (case ex7 => kernel_rfl)
    (case e0a => k_is)
    (case e0b => k_is)
    (case e0c => k_is)
    (case e0f => k_is)
    (case e0g => k_is)
    (case e0h => k_is)
    (case e0i => kernel_rfl)
    (case e4a => k_is)
    (case e4b => k_is)
    (case e4c => k_is)
    (case e4f => k_is)
    (case e4g => k_is)
    (case e4h => k_is)
    (case e4i => kernel_rfl)
    (case e6a => k_is)
    (case e6b => k_is)
    (case e6c => k_is)
    (case e6f => k_is)
    (case e6g => k_is)
    (case e6h => k_is)
    (case e6i => kernel_rfl)
    (case e7a => k_is)
    (case e7b => k_is)
    (case e7c => k_is)
    (case e7f => k_is)
    (case e7g => k_is)
    (case e7h => k_is)
    (case e7i => kernel_rfl)
    (case ed => k_is)
    (case ee => k_is)
    (case hKINDS => k_is)
    (case lkK => k_is)
    (case kt0 => kernel_rfl)
    (case kt1 => kernel_rfl)
    (case kt2 => kernel_rfl)
    (case kt3 => kernel_rfl)
    (case kt4 => kernel_rfl)
    (case kt5 => kernel_rfl)
    (case kt6 => kernel_rfl)
    (case kt7 => kernel_rfl)
    (case kt8 => kernel_rfl)
    (case kt9 => kernel_rfl)
    (case kt10 => kernel_rfl)
    (case q_int0 => kernel_rfl)
    (case q_int1 => kernel_rfl)
    (case q_int2 => kernel_rfl)
    (case q_int3 => kernel_rfl)
    (case q_int4 => kernel_rfl)
    (case q_int5 => kernel_rfl)
    (case q_int6 => kernel_rfl)
    (case q_bool0 => kernel_rfl)
    (case q_bool1 => kernel_rfl)
    (case q_bool2 => kernel_rfl)
    (case q_bool3 => kernel_rfl)
    (case q_bool4 => kernel_rfl)
    (case q_bool5 => kernel_rfl)
    (case q_bool6 => kernel_rfl)
    (case q_str0 => kernel_rfl)
    (case q_str1 => kernel_rfl)
    (case q_str2 => kernel_rfl)
    (case q_str3 => kernel_rfl)
    (case q_str4 => kernel_rfl)
    (case q_str5 => kernel_rfl)
    (case q_str6 => kernel_rfl)
    (case q_tuple0 => kernel_rfl)
    (case q_tuple1 => kernel_rfl)
    (case q_tuple2 => kernel_rfl)
    (case q_tuple3 => kernel_rfl)
    (case q_tuple4 => kernel_rfl)
    (case q_tuple5 => kernel_rfl)
    (case q_tuple6 => kernel_rfl)
    (case kt11 => kernel_rfl)
    (case up4 => k_is)
    (case qk44 => kernel_rfl)
    (case qk46 => kernel_rfl)
    (case qk47 => kernel_rfl)
    (case qv4 => kernel_rfl)
    (case qA4 => kernel_rfl)
    (case up6 => k_is)
    (case qk64 => kernel_rfl)
    (case qk66 => kernel_rfl)
    (case qk67 => kernel_rfl)
    (case qv6 => kernel_rfl)
    (case qA6 => kernel_rfl)
    (case up7 => k_is)
    (case qk74 => kernel_rfl)
    (case qk76 => kernel_rfl)
    (case qk77 => kernel_rfl)
    (case qv7 => kernel_rfl)
    (case qA7 => kernel_rfl)
#print axioms PySem.Challenge.cw_pagepart_k69_printing_refused_holds
