import PyProof.Rows.All
import Wide.All
import OpenK.AllK
import Wide.FinOn
import Lean
import PyProof.EqAt
import PyProof.EqKinds
import PyProof.TupleCall
import PyProof.Draws
import PyProof.EnumMake
import PyProof.TupleIter
import PyProof.WalksMore
import PyProof.MinMaxWalk
import PyProof.SeqI3
import KE.KSortTup
import KE.KLam
import KE.KIsAll
import PyProof.Rows.CallKwBuiltin
import PyProof.SumWalk
import PyProof.CompFree
import PyProof.CompUse
import PyProof.ConsumeWalk
import PyProof.NeKinds
import PyProof.Rows.StrJoin2
import PyProof.Rows.SortShell
import PyProof.StrBlock2
import PyProof.StrWalks
import PyProof.FString5
import PyProof.ZipIter
import PyProof.Rows.StrSplitAre
import PyProof.StrLawsTight
import PyProof.SumWalkG
import PyProof.Conv_int_bool
import PySem.Challenge.RW_pagepart_k71_poured
set_option Elab.async false
set_option linter.all false
set_option maxRecDepth 100000
namespace L2
open PySem PySem.Spec PyProof.Rows
abbrev Key := Sum Int Str
def keyIs : Key → Value → Bool
  | .inl k, v => Value.isInt k v
  | .inr x, v => Value.isStrOf x v
def keyH (w : World) : Key → Int
  | .inl k => hashInt k
  | .inr x => hashStr w x
theorem keyIs_shape : ∀ {k : Key} {v : Value}, keyIs k v = true → (∃ i t, k = Sum.inl i ∧ v = Value.int i t) ∨ (∃ x t, k = Sum.inr x ∧ v = Value.str x t)
  | .inl i, v, h => by
    obtain ⟨t, e⟩ := Value.isInt_shape (k := i) (v := v) h
    exact .inl ⟨i, t, rfl, e⟩
  | .inr x, v, h => by
    obtain ⟨t, e⟩ := Value.isStrOf_shape (x := x) (v := v) h
    exact .inr ⟨x, t, rfl, e⟩
theorem key_ll (a b : Int) : decide ((Sum.inl a : Key) = Sum.inl b) = (a == b) := by
  by_cases e : a = b
  · subst e; simp
  · have h : ¬ (Sum.inl a : Key) = Sum.inl b := fun q => e (Sum.inl.inj q)
    rw [decide_eq_false h]
    exact (beq_eq_false_iff_ne.mpr e).symm
theorem key_rr (a b : Str) : decide ((Sum.inr a : Key) = Sum.inr b) = decide (a = b) := by
  by_cases e : a = b
  · subst e; simp
  · have h : ¬ (Sum.inr a : Key) = Sum.inr b := fun q => e (Sum.inr.inj q)
    rw [decide_eq_false h, decide_eq_false e]
theorem key_lr (a : Int) (b : Str) : decide ((Sum.inl a : Key) = Sum.inr b) = false := decide_eq_false (fun q => nomatch q)
theorem key_rl (a : Str) (b : Int) : decide ((Sum.inr a : Key) = Sum.inl b) = false := decide_eq_false (fun q => nomatch q)
def mixKind (prog : Program) (w : World) : PySem.KeyKind prog w Key where
  is := keyIs
  hash := keyH w
  inj := fun v a b ha hb => by
    rcases keyIs_shape ha with ⟨i, t, rfl, rfl⟩ | ⟨x, t, rfl, rfl⟩
    · rcases keyIs_shape hb with ⟨j, u, rfl, e⟩ | ⟨y, u, rfl, e⟩
      · injection e with e1 _; rw [e1]
      · exact nomatch e
    · rcases keyIs_shape hb with ⟨j, u, rfl, e⟩ | ⟨y, u, rfl, e⟩
      · exact nomatch e
      · injection e with e1 _; rw [e1]
  byValue := fun k v h => by
    rcases keyIs_shape h with ⟨i, t, rfl, rfl⟩ | ⟨x, t, rfl, rfl⟩ <;> rfl
  pyHash := fun hv h => by
    rcases keyIs_shape hv with ⟨i, t, rfl, rfl⟩ | ⟨x, t, rfl, rfl⟩
    · exact wpAny_pyHash_int h
    · exact wpAny_pyHash_str h
  eqBool := fun hu hv h => by
    rcases keyIs_shape hu with ⟨i, t, rfl, rfl⟩ | ⟨x, t, rfl, rfl⟩
    · rcases keyIs_shape hv with ⟨j, u, rfl, rfl⟩ | ⟨y, u, rfl, rfl⟩
      · rw [key_ll] at h; exact wpAny_eqBool_int h
      · rw [key_lr] at h; exact SeqAt.EqAt.int_str i t y u _ _ _ _ h
    · rcases keyIs_shape hv with ⟨j, u, rfl, rfl⟩ | ⟨y, u, rfl, rfl⟩
      · rw [key_rl] at h; exact SeqAt.EqAt.str_int x t j u _ _ _ _ h
      · rw [key_rr] at h; exact wpAny_eqBool_str h
  «strs» := fun k x t v h => by
    rcases keyIs_shape h with ⟨i, u, rfl, e⟩ | ⟨y, u, rfl, e⟩
    · exact nomatch e
    · injection e with e1 _
      subst e1
      cases v <;> rfl
end L2
namespace L2
open PySem PySem.Spec PyProof.Rows
inductive V where
  | non | bl (b : Bool) | int (i : Int) | str (x : Str) | byt (b : Array UInt8) | flt (b : UInt64) | ref (a : Addr) | ty (n : String)
  deriving DecidableEq
def RelV : V → Value → Prop
  | .non, u => u = Value.none
  | .bl b, u => u = Value.bool b
  | .int i, u => ∃ t, u = Value.int i t
  | .str x, u => ∃ t, u = Value.str x t
  | .byt b, u => ∃ t, u = Value.bytes b t
  | .flt b, u => ∃ t, u = Value.float b t
  | .ref a, u => u = Value.ref a
  | .ty n, u => u = Value.type n
abbrev Vals : List V → List Value → Prop := Paired RelV
theorem Vals.length {xs : List V} {us : List Value} (r : Vals xs us) : xs.length = us.length := Paired.length r
theorem Vals.get : ∀ {xs : List V} {us : List Value} {i : Nat} {x : V}, Vals xs us → xs[i]? = some x → ∃ u, us[i]? = some u ∧ RelV x u
  | _, _, _, _, .nil, e => by simp at e
  | _, _, 0, _, .cons r _, e => by simp at e; subst e; exact ⟨_, rfl, r⟩
  | _, _, i + 1, x, .cons _ t, e => by
    obtain ⟨u, h1, h2⟩ := Vals.get (i := i) (x := x) t (by simpa using e)
    exact ⟨u, by simpa using h1, h2⟩
theorem Vals.set {x : V} {u : Value} (r : RelV x u) : ∀ {xs : List V} {us : List Value} (i : Nat), Vals xs us → Vals (xs.set i x) (us.set i u)
  | _, _, _, .nil => .nil
  | _, _, 0, .cons _ t => .cons r t
  | _, _, i + 1, .cons q t => .cons q (Vals.set r i t)
theorem Vals.append : ∀ {xs ys : List V} {us ws : List Value}, Vals xs us → Vals ys ws → Vals (xs ++ ys) (us ++ ws)
  | _, _, _, _, .nil, s => s
  | _, _, _, _, .cons r t, s => .cons r (Vals.append t s)
theorem Vals.take : ∀ {xs : List V} {us : List Value} (n : Nat), Vals xs us → Vals (xs.take n) (us.take n)
  | _, _, 0, _ => .nil
  | _, _, _ + 1, .nil => .nil
  | _, _, n + 1, .cons r t => .cons r (Vals.take n t)
theorem Vals.drop : ∀ {xs : List V} {us : List Value} (n : Nat), Vals xs us → Vals (xs.drop n) (us.drop n)
  | _, _, 0, r => r
  | _, _, _ + 1, .nil => .nil
  | _, _, n + 1, .cons _ t => Vals.drop n t
def RelO : Option V → Option Value → Prop
  | some v, some u => RelV v u
  | none, none => True
  | _, _ => False
def KV {κ : Type} : List (κ × V) → List (κ × Value) → Prop := Paired fun (p : κ × V) (q : κ × Value) => p.1 = q.1 ∧ RelV p.2 q.2
def kV : Key → V
  | .inl i => .int i
  | .inr x => .str x
inductive HO where
  /-- a list -/
  | lst (xs : List V)
  /-- a tuple (never changes) -/
  | tup (xs : List V)
  /-- a dict whose keys are ints and texts; one whose keys are tuples of ints and texts (the empty one is both) -/
  | dK (kvs : List (Key × V)) | dT (kvs : List (List Key × V))
  /-- a set of ints: its members, its size -/
  | set (S : Int → Bool) (n : Nat)
  /-- an instance of the class at C, its dict at dx, its attributes -/
  | ins (C dx : Addr) (fs : List (Str × V))
  /-- the dict of the instance at x -/
  | own (x : Addr)
  /-- the dict of an exception -/
  | xd (fs : List (Str × V))
  /-- a bound method, f of x -/
  | met (f x : Addr)
  /-- a range object lo, lo + 1, .. below hi -/
  | rng (lo hi : Int)
  /-- a thing that is known to the object (the script; a dict while a loop walks it): read, never written while it is so -/
  | frz (o : Obj) (u : HO)
  /-- a code object's table -/
  | tbl (ps : Array Value)
  /-- any other thing, by what is true of its one object (a def of one's own: SetO a S n := HO.ext fun h => ..) -/
  | ext (φ : Heap → Prop)
abbrev Hp := Addr → Option HO
def upd (H : Hp) (a : Addr) (o : HO) : Hp := fun b => if b = a then some o else H b
theorem upd_same {H : Hp} {a : Addr} {o : HO} : upd H a o a = some o := by unfold upd; rw [if_pos rfl]
theorem upd_ne {H : Hp} {a b : Addr} {o : HO} (h : b ≠ a) : upd H a o b = H b := by unfold upd; rw [if_neg h]
theorem ne_of_none {H : Hp} {a b : Addr} {o : HO} (h : H a = some o) (h' : H b = none) : a ≠ b := by
  intro e; subst e; rw [h] at h'; cases h'
section
variable (P : Program) (w : World)
def ObjOk (H : Hp) (h : Heap) (a : Addr) : HO → Prop
  | .lst xs => xs.length ≤ sizeLine ∧ ∃ (its : List Value) (n : Nat), Vals xs its ∧ h.get? a = some { cls := .type "list", data := .seq its.toArray n }
  | .tup xs => xs.length ≤ sizeLine ∧ ∃ its : List Value, Vals xs its ∧ IsTup h a its.toArray
  | .dK kvs => kvs.length ≤ sizeLine ∧ (a == sysModules) = false ∧ ∃ vs, KV kvs vs ∧ h.DictOf (mixKind P w) a vs
  | .dT kvs => kvs.length ≤ sizeLine ∧ (a == sysModules) = false ∧ ∃ xs : List (List Key × Addr × Value),
      Paired (fun (p : List Key × V) (q : List Key × Addr × Value) => p.1 = q.1 ∧ H q.2.1 = some (.tup (p.1.map kV)) ∧ RelV p.2 q.2.2) kvs xs ∧
      ∃ o es ep, h.get? a = some o ∧ o.ExactDict ∧ o.data = .dict es ep ∧ es.toList = xs.map (entryOfKey (tupleKind (mixKind P w))) ∧ (xs.map (·.1)).Nodup
  | .set S n => h.SetOf (intKind P w) a S n
  | .ins C dx fs => H dx = some (.own a) ∧ fs.length ≤ 1000 ∧ dx ≠ a ∧ h.get? a = some (PySem.W.instObj C dx) ∧
      ∃ mA, h.Ns1 dx mA ∧ (∀ f, RelO (fs.lookup f) (mA f)) ∧ PySem.Within mA (fs.map (·.1))
  | .own _ => ∃ o, h.get? a = some o
  | .xd fs => ∃ mA, h.Ns1 a mA ∧ ∀ f, RelO (fs.lookup f) (mA f)
  | .rng lo hi => ∃ t u v, h.get? a = some { cls := .type "range", data := .fields #[.int lo t, .int hi u, .int 1 v] }
  | .frz o u => h.get? a = some o ∧ ObjOk H h a u
  | .tbl ps => h.get? a = some { cls := .none, data := .fields ps }
  | .met f x => h.get? a = some (PySem.W.methodObj (.ref f) (.ref x))
  | .ext φ => φ h ∧ (∃ o, h.get? a = some o) ∧ ∀ h1 h2 : Heap, φ h1 → (∀ o, h1.get? a = some o → h2.get? a = some o) → φ h2
def HOk (H : Hp) (h : Heap) : Prop := ∀ a o, H a = some o → ObjOk P w H h a o
end
section
variable {P : Program} {w : World} {H H' : Hp} {h h' : Heap} {a : Addr} {o : HO}
theorem ObjOk.lt (x : ObjOk P w H h a o) : a < h.objs.size := by
  cases o with
  | lst xs => obtain ⟨_, _, _, _, e⟩ := x; exact Heap.lt_size e
  | tup xs => obtain ⟨_, _, _, p⟩ := x; exact p.lt
  | dK kvs => obtain ⟨_, _, _, _, o, _, _, e, _⟩ := x; exact Heap.lt_size e
  | dT kvs => obtain ⟨_, _, _, _, o, _, _, e, _⟩ := x; exact Heap.lt_size e
  | set S n => obtain ⟨o, _, _, _, e, _⟩ := x; exact Heap.lt_size e
  | ins C dx fs => obtain ⟨_, _, _, e, _⟩ := x; exact Heap.lt_size e
  | own y => obtain ⟨_, e⟩ := x; exact Heap.lt_size e
  | xd fs => obtain ⟨_, ⟨_, _, _, e, _⟩, _⟩ := x; exact Heap.lt_size e
  | rng lo hi => obtain ⟨_, _, _, e⟩ := x; exact Heap.lt_size e
  | frz ob u => obtain ⟨e, _⟩ := x; exact Heap.lt_size e
  | tbl ps => exact Heap.lt_size (show h.get? a = some _ from x)
  | met f y => exact Heap.lt_size (show h.get? a = some _ from x)
  | ext φ => obtain ⟨_, ⟨_, e⟩, _⟩ := x; exact Heap.lt_size e
theorem Paired.mapP {α β : Type} {F G : α → β → Prop} : ∀ {l₁ : List α} {l₂ : List β}, Paired F l₁ l₂ → (∀ a b, F a b → G a b) → Paired G l₁ l₂
  | _, _, .nil, _ => .nil
  | _, _, .cons r t, f => .cons (f _ _ r) (Paired.mapP t f)
theorem ObjOk.stay (x : ObjOk P w H h a o) (k : ∀ b u, (b = a ∨ H b = some (.own a)) → h.get? b = some u → h'.get? b = some u)
    (ho : ∀ b, H b = some (.own a) → H' b = some (.own a)) (ht : ∀ b xs, H b = some (.tup xs) → H' b = some (.tup xs)) : ObjOk P w H' h' a o := by
  induction o with
  | lst xs => obtain ⟨z, its, n, r, e⟩ := x; exact ⟨z, its, n, r, k _ _ (.inl rfl) e⟩
  | tup xs => obtain ⟨z, its, r, ob, e, c⟩ := x; exact ⟨z, its, r, ob, k _ _ (.inl rfl) e, c⟩
  | dK kvs => obtain ⟨z, y, vs, r, ob, es, ep, e, c⟩ := x; exact ⟨z, y, vs, r, ob, es, ep, k _ _ (.inl rfl) e, c⟩
  | dT kvs =>
    obtain ⟨z, y, xs, r, ob, es, ep, e, c⟩ := x
    exact ⟨z, y, xs, Paired.mapP r fun p q z => ⟨z.1, ht _ _ z.2.1, z.2.2⟩, ob, es, ep, k _ _ (.inl rfl) e, c⟩
  | set S n => obtain ⟨ob, es, ep, t, e, c⟩ := x; exact ⟨ob, es, ep, t, k _ _ (.inl rfl) e, c⟩
  | ins C dx fs =>
    obtain ⟨d, z, ne, e, mA, ⟨od, es, ep, e2, c⟩, r⟩ := x
    exact ⟨ho _ d, z, ne, k _ _ (.inl rfl) e, mA, ⟨od, es, ep, k _ _ (.inr d) e2, c⟩, r⟩
  | own y => obtain ⟨ob, e⟩ := x; exact ⟨ob, k _ _ (.inl rfl) e⟩
  | xd fs => obtain ⟨mA, ⟨od, es, ep, e, c⟩, r⟩ := x; exact ⟨mA, ⟨od, es, ep, k _ _ (.inl rfl) e, c⟩, r⟩
  | rng lo hi => obtain ⟨t, u, v, e⟩ := x; exact ⟨t, u, v, k _ _ (.inl rfl) e⟩
  | frz ob u ih => obtain ⟨e, q⟩ := x; exact ⟨k _ _ (.inl rfl) e, ih q⟩
  | tbl ps =>
    have e : h.get? a = some { cls := .none, data := .fields ps } := x
    show h'.get? a = some { cls := .none, data := .fields ps }
    exact k a _ (.inl rfl) e
  | met f y =>
    have e : h.get? a = some (PySem.W.methodObj (.ref f) (.ref y)) := x
    show h'.get? a = some (PySem.W.methodObj (.ref f) (.ref y))
    exact k a _ (.inl rfl) e
  | ext φ => obtain ⟨p, ⟨o, e⟩, st⟩ := x; exact ⟨st _ _ p fun o q => k _ _ (.inl rfl) q, ⟨o, k _ _ (.inl rfl) e⟩, st⟩
theorem HOk.lt (x : HOk P w H h) (e : H a = some o) : a < h.objs.size := (x a o e).lt
theorem HOk.fresh (x : HOk P w H h) (e : h.objs.size ≤ a) : H a = none := by
  cases q : H a with
  | none => rfl
  | some u => exact absurd (Nat.lt_of_lt_of_le (x.lt q) e) (Nat.lt_irrefl _)
theorem HOk.kept (x : HOk P w H h) (k : ∀ b u, h.get? b = some u → h'.get? b = some u) : HOk P w H h' := fun a o e =>
  (x a o e).stay (fun b u _ q => k b u q) (fun _ q => q) fun _ _ q => q
theorem HOk.laid (x : HOk P w H h) (k : ∀ b u, h.get? b = some u → h'.get? b = some u) (hp : h.objs.size ≤ a) (new : ObjOk P w (upd H a o) h' a o) : HOk P w (upd H a o) h' := fun b u e => by
  have hn := x.fresh hp
  by_cases hb : b = a
  · subst hb; rw [upd_same] at e; cases e; exact new
  · rw [upd_ne hb] at e
    exact (x b u e).stay (fun c v _ q => k c v q) (fun c q => by rw [upd_ne (ne_of_none q hn)]; exact q) fun c xs q => by rw [upd_ne (ne_of_none q hn)]; exact q
end
def Rd (H : Hp) (a : Addr) (u : HO) : Prop := H a = some u ∨ ∃ o, H a = some (.frz o u)
theorem Rd.ok {P : Program} {w : World} {H : Hp} {h : Heap} {a : Addr} {u : HO} (r : Rd H a u) (x : HOk P w H h) : ObjOk P w H h a u := by
  rcases r with r | ⟨o, r⟩
  · exact x a u r
  · obtain ⟨_, q⟩ := x a _ r
    exact q
def Mut : Option HO → Prop
  | some (.lst _) => True
  | some (.dK _) => True
  | some (.dT _) => True
  | some (.set _ _) => True
  | some (.ins _ _ _) => True
  | some (.ext _) => True
  | _ => False
section
variable {P : Program} {w : World} {H : Hp} {h h' : Heap} {x e : Addr} {o' : HO}
theorem HOk.write (ok : HOk P w H h) (mu : Mut (H x)) (he : e = x ∨ H e = some (.own x)) (k : ∀ b u, b ≠ e → h.get? b = some u → h'.get? b = some u) (heo : ∃ u, h'.get? e = some u)
    (new : ObjOk P w (upd H x o') h' x o') : HOk P w (upd H x o') h' := fun b u q => by
  have nown : ∀ c y, H c = some (.own y) → c ≠ x := fun c y r z => by subst z; rw [r] at mu; exact mu
  have ntup : ∀ c xs, H c = some (.tup xs) → c ≠ x := fun c xs r z => by subst z; rw [r] at mu; exact mu
  by_cases hb : b = x
  · subst hb; rw [upd_same] at q; cases q; exact new
  · rw [upd_ne hb] at q
    by_cases hbe : b = e
    · have q' : H b = some (.own x) := by
        rcases he with z | z
        · exact absurd (hbe.trans z) hb
        · rw [hbe]; exact z
      rw [q] at q'; cases q'
      obtain ⟨v, hv⟩ := heo
      exact ⟨v, by rw [hbe]; exact hv⟩
    · refine (ok b u q).stay (fun c v hc r => k c v ?_ r) (fun c r => by rw [upd_ne (nown c b r)]; exact r) fun c xs r => by rw [upd_ne (ntup c xs r)]; exact r
      rcases hc with rfl | hc
      · exact hbe
      · rintro rfl
        rcases he with z | z
        · exact nown c b hc z
        · rw [hc] at z; cases z; exact hb rfl
end
structure Un (fs ex : List Addr) (H H' : Hp) (h h' : Heap) : Prop where
  keep : ∀ b o, h.get? b = some o → H b = none → b ∉ fs → b ∉ ex → h'.get? b = some o
  slot : ∀ b o, h.get? b = some o → H b = none → b ∈ fs → b ∉ ex → ∃ sl, h'.get? b = some { o with slots := sl }
  free : ∀ b o, h.get? b = some o → H b = none → b ∉ ex → H' b = none
  there : ∀ b o, h.get? b = some o → b ∉ ex → ∃ o', h'.get? b = some o'
  tups : ∀ b xs, H b = some (.tup xs) → H' b = some (.tup xs)
  frzs : ∀ b o u, H b = some (.frz o u) → H' b = some (.frz o u)
  tbls : ∀ b ps, H b = some (.tbl ps) → ∃ more, H' b = some (.tbl (ps ++ more))
section
variable {fs fs' ex ex' : List Addr} {H H1 H2 : Hp} {h h1 h2 h' : Heap} {a x e : Addr} {o : HO}
theorem Un.any (u : Un fs ex H H1 h h1) {b : Addr} {ob : Obj} (q : h.get? b = some ob) (n : H b = none) (hx : b ∉ ex) : ∃ sl, h1.get? b = some { ob with slots := sl } := by
  by_cases hb : b ∈ fs
  · exact u.slot b ob q n hb hx
  · exact ⟨ob.slots, u.keep b ob q n hb hx⟩
theorem Un.kept (k : ∀ b u, h.get? b = some u → h'.get? b = some u) : Un fs ex H H h h' :=
  ⟨fun b ob q _ _ _ => k b ob q, fun b ob q _ _ _ => ⟨ob.slots, k b ob q⟩, fun _ _ _ n _ => n, fun b ob q _ => ⟨ob, k b ob q⟩, fun _ _ q => q, fun _ _ _ q => q, fun _ ps q => ⟨#[], by rw [q]; simp⟩⟩
theorem Un.refl : Un fs ex H H h h := Un.kept fun _ _ q => q
theorem Un.laid (k : ∀ b u, h.get? b = some u → h'.get? b = some u) (hp : h.objs.size ≤ a) (hn : H a = none) : Un fs ex H (upd H a o) h h' where
  keep := fun b u q _ _ _ => k b u q
  slot := fun b u q _ _ _ => ⟨u.slots, k b u q⟩
  free := fun b u q n _ => by rw [upd_ne (Nat.ne_of_lt (Nat.lt_of_lt_of_le (Heap.lt_size q) hp))]; exact n
  there := fun b u q _ => ⟨u, k b u q⟩
  tups := fun b xs q => by rw [upd_ne (ne_of_none q hn)]; exact q
  frzs := fun b u xs q => by rw [upd_ne (ne_of_none q hn)]; exact q
  tbls := fun b ps q => ⟨#[], by rw [upd_ne (ne_of_none q hn), q]; simp⟩
theorem Un.write (mu : Mut (H x)) (he : e = x ∨ H e = some (.own x)) (k : ∀ b u, b ≠ e → h.get? b = some u → h'.get? b = some u) (heo : ∃ u, h'.get? e = some u) : Un fs ex H (upd H x o) h h' := by
  have hx : ∀ b, H b = none → b ≠ x := fun b n z => by subst z; rw [n] at mu; exact mu
  have hb : ∀ b, H b = none → b ≠ e := fun b n z => by
    subst z
    rcases he with r | r
    · exact hx b n r
    · rw [n] at r; cases r
  have hm : ∀ b u, H b = some u → ¬ Mut (some u) → b ≠ x := fun b u q nm z => by subst z; rw [q] at mu; exact nm mu
  refine ⟨fun b u q n _ _ => k b u (hb b n) q, fun b u q n _ _ => ⟨u.slots, k b u (hb b n) q⟩, fun b u q n _ => by rw [upd_ne (hx b n)]; exact n, fun b u q _ => ?_,
    fun b xs q => by rw [upd_ne (hm b _ q fun z => z)]; exact q, fun b u xs q => by rw [upd_ne (hm b _ q fun z => z)]; exact q, fun b ps q => ⟨#[], by rw [upd_ne (hm b _ q fun z => z), q]; simp⟩⟩
  by_cases hbe : b = e
  · subst hbe; exact heo
  · exact ⟨u, k b u hbe q⟩
end
def trk (h : Heap) (H : Hp) : List Addr := (List.range h.objs.size).filter fun a => (H a).isSome
def hidT (h : Heap) (H : Hp) : Heap := PySem.W.hideAll h (trk h H)
theorem hidT_size (h : Heap) (H : Hp) : (hidT h H).objs.size = h.objs.size := PySem.W.hideAll_size _ _
theorem hidT_get {h : Heap} {H : Hp} {b : Addr} {o : Obj} (e : h.get? b = some o) (n : H b = none) : (hidT h H).get? b = some o :=
  PySem.W.hideAll_get _ e fun hm => by
    have q : (H b).isSome = true := (List.mem_filter.mp hm).2
    rw [n] at q; simp at q
theorem of_hidT {h : Heap} {H : Hp} {b : Addr} {o : Obj} (e : (hidT h H).get? b = some o) : h.get? b = some o ∧ H b = none := by
  have e' : h.get? b = some o := PySem.W.of_hideAll (trk h H) e
  refine ⟨e', ?_⟩
  cases q : H b with
  | none => rfl
  | some x =>
    have hm : b ∈ trk h H := List.mem_filter.mpr ⟨List.mem_range.mpr (Heap.lt_size e'), by simp [q]⟩
    have z : (hidT h H).get? b = none := PySem.W.hideAll_none (trk h H) hm
    rw [z] at e; cases e
end L2
namespace L2
open PySem PySem.Spec PyProof.Rows
structure Mod (K : PySem.W.Frag) (mg : Str → Option Value) (base : Heap) : Prop where
  kin : K.In base
  glob : base.Ns mainGlobals mg
  blt : ∃ mb, base.Ns builtinsNs mb ∧ ∀ x : Str, x ≠ "__name__" → mb x = bootBuiltins x
  nolimit : base.NoLimit
structure Cx where
  prog : Program
  w : World
  K : PySem.W.Frag
  mg : Str → Option Value
  base : Heap
  A : Around
  N : List Str
  s₀ : Shared
  H₀ : Hp
  env : Env
  outer : List Env
  stack : List Env
  ex : List Addr
  fn : Str → Bool
  calm : Bool
  pn : List (Addr × Obj)
  xe : Value → Shared → Prop
def frs (l : List Env) : List Addr := l.filterMap (·.frame)
abbrev Cx.fs (X : Cx) : List Addr := frs X.outer
def Vis (sc : Scope) (x : Str) : Prop := sc.names.lookup x = some .local ∨ sc.names.lookup x = some .cell ∨ sc.names.lookup x = some .free
def Loc (sc : Scope) (x : Str) : Prop := sc.names.lookup x = some .local ∨ sc.names.lookup x = some .cell
def Look (env : Env) (h : Heap) (m : Str → Option Value) (x : Str) (u : Value) : Prop :=
  (env.kindOf x = some .local ∧ m x = some u) ∨ ((env.kindOf x = some .cell ∨ env.kindOf x = some .free) ∧ ∃ c, env.cells.lookup x = some c ∧ h.IsCell c (some u))
structure Cx.Ok (X : Cx) : Prop where
  mod : Mod X.K X.mg X.base
  kind : X.env.scope.kind = .function
  glob : X.env.globals = mainGlobals
  blt : X.env.builtins = builtinsNs
  above : X.s₀.heap.objs.size ≤ X.env.locals
  inj : ∀ x y c, X.env.cells.lookup x = some c → X.env.cells.lookup y = some c → x = y
  has : ∀ x, (X.env.kindOf x = some .cell ∨ X.env.kindOf x = some .free) → ∃ c, X.env.cells.lookup x = some c
  cab : ∀ x c, X.fn x = true → X.env.cells.lookup x = some c → X.s₀.heap.objs.size ≤ c
  hd : X.calm = true → X.A.handled = none
  frames : X.A.frames = some X.stack
  stk : X.stack = X.outer ∨ (X.stack = X.env :: X.outer ∧ X.env.frame = some X.env.locals)
  exf : ∀ b ∈ X.ex, b ≠ X.env.locals ∧ ∀ x c, X.env.cells.lookup x = some c → c ≠ b
  bs : ∀ b o, X.base.get? b = some o → X.s₀.heap.get? b = some o ∧ X.H₀ b = none
  bsz : X.base.objs.size ≤ X.s₀.heap.objs.size
  noex : ∀ b o, X.base.get? b = some o → b ∉ X.ex
  exfs : ∀ b ∈ X.ex, b ∉ X.fs
  funs : X.s₀.heap.FunFrames X.base X.outer
  frf : ∀ b ∈ X.fs, X.H₀ b = none
structure Inv (X : Cx) (pins : List (Addr × Obj)) (σ : List (Option V)) (H : Hp) (s : Shared) : Prop where
  ok : X.Ok
  os : s.os = X.s₀.os
  bare : AllBare s.gens
  base : Un X.fs X.ex X.H₀ H X.s₀.heap s.heap
  loc : ∃ m, s.heap.Ns X.env.locals m ∧ ∀ (i : Nat) (x : Str) (v : V), X.N[i]? = some x → σ[i]? = some (some v) → Vis X.env.scope x → ∃ u, RelV v u ∧ Look X.env s.heap m x u
  cell : ∀ x c, X.env.cells.lookup x = some c → ∃ v, s.heap.IsCell c v
  free : H X.env.locals = none
  freeC : ∀ x c, X.env.cells.lookup x = some c → H c = none
  pin : ∀ p ∈ X.pn ++ pins, s.heap.get? p.1 = some p.2 ∧ H p.1 = none ∧ p.1 ≠ X.env.locals ∧ p.1 ∉ X.fs ∧ ∀ v, p.2.data ≠ .cell v
  hok : HOk X.prog X.w H s.heap
  len : σ.length = X.N.length
section
variable {X : Cx} {pins : List (Addr × Obj)} {σ : List (Option V)} {H H' : Hp} {s : Shared} {h' : Heap}
theorem Cx.Ok.nofr (ok : X.Ok) {b : Addr} {o : Obj} (e : X.base.get? b = some o) : b ∉ X.fs := fun hb => by
  have := (ok.funs.mem hb).1
  rw [e] at this; cases this
theorem Inv.bs (I : Inv X pins σ H s) : ∀ b o, X.base.get? b = some o → s.heap.get? b = some o ∧ H b = none := fun b o e =>
  ⟨I.base.keep b o (I.ok.bs b o e).1 (I.ok.bs b o e).2 (I.ok.nofr e) (I.ok.noex b o e), I.base.free b o (I.ok.bs b o e).1 (I.ok.bs b o e).2 (I.ok.noex b o e)⟩
theorem Inv.bk (I : Inv X pins σ H s) : ∀ b o, X.base.get? b = some o → s.heap.get? b = some o := fun b o e => (I.bs b o e).1
theorem Inv.mod (I : Inv X pins σ H s) : Mod X.K X.mg X.base := I.ok.mod
theorem Inv.kIn (I : Inv X pins σ H s) : X.K.In s.heap := I.ok.mod.kin.keeps I.bk
theorem Inv.lt (I : Inv X pins σ H s) : X.env.locals < s.heap.objs.size := let ⟨_, hn, _⟩ := I.loc; hn.lt
theorem Inv.sz (I : Inv X pins σ H s) : X.s₀.heap.objs.size ≤ s.heap.objs.size := Nat.le_trans I.ok.above (Nat.le_of_lt I.lt)
theorem Inv.nofs (I : Inv X pins σ H s) {a : Addr} (h : s.heap.objs.size ≤ a) : a ∉ X.fs := fun hb => by
  obtain ⟨_, o, ho, _⟩ := I.ok.funs.mem hb
  exact absurd (Nat.lt_of_lt_of_le (Heap.lt_size ho) (Nat.le_trans I.sz h)) (Nat.lt_irrefl _)
theorem Inv.cne (I : Inv X pins σ H s) : ∀ x c, X.env.cells.lookup x = some c → c ≠ X.env.locals := fun x c e z => by
  obtain ⟨v, o, ho, hd⟩ := I.cell x c e
  obtain ⟨m, ⟨o', es, ep, ho', hd', _⟩, _⟩ := I.loc
  rw [z, ho'] at ho; cases ho; rw [hd'] at hd; cases hd
theorem Inv.funs (I : Inv X pins σ H s) : s.heap.FunFrames X.base X.outer := by
  have all : ∀ (l : List Env), (∀ b ∈ frs l, b ∈ X.fs) → X.s₀.heap.FunFrames X.base l → s.heap.FunFrames X.base l := by
    intro l
    induction l with
    | nil => intro _ _; trivial
    | cons env r ih =>
      intro hs hl
      obtain ⟨hk, ⟨L, o, hf, hn, ho, hd⟩, hr⟩ := hl
      have hL : L ∈ X.fs := hs L (by unfold frs; rw [List.filterMap_cons, hf]; exact List.mem_cons_self)
      obtain ⟨sl, e⟩ := I.base.slot L o ho (I.ok.frf L hL) hL fun z => I.ok.exfs L z hL
      exact ⟨hk, ⟨L, _, hf, hn, e, hd⟩, ih (fun b hb => hs b (by unfold frs; rw [List.filterMap_cons, hf]; exact List.mem_cons_of_mem _ hb)) hr⟩
  exact all X.outer (fun _ hb => hb) I.ok.funs
theorem Inv.stack (I : Inv X pins σ H s) : s.heap.FunFrames X.base X.stack := by
  rcases I.ok.stk with e | ⟨e, hf⟩
  · rw [e]; exact I.funs
  · rw [e]
    obtain ⟨m, hn, _⟩ := I.loc
    refine .cons (by rw [I.ok.kind]; decide) hf hn ?_ I.funs
    exact Heap.get?_none_of_le (Nat.le_trans I.ok.bsz I.ok.above)
theorem Inv.stkSub (I : Inv X pins σ H s) : ∀ b ∈ frs X.stack, b ∈ X.env.locals :: X.fs := fun b hb => by
  rcases I.ok.stk with e | ⟨e, hf⟩
  · rw [e] at hb; exact List.mem_cons_of_mem _ hb
  · rw [e] at hb
    unfold frs at hb
    rw [List.filterMap_cons, hf] at hb
    exact hb
theorem Inv.stkFree (I : Inv X pins σ H s) : ∀ b ∈ frs X.stack, H b = none := fun b hb => by
  rcases List.mem_cons.mp (I.stkSub b hb) with e | hb
  · rw [e]; exact I.free
  · obtain ⟨_, o, ho, _⟩ := I.ok.funs.mem hb
    exact I.base.free b o ho (I.ok.frf b hb) fun z => I.ok.exfs b z hb
theorem Inv.step {g' : Array GenState} {t' : Nat} {d' : Drawn} {ch : List Addr} (I : Inv X pins σ H s)
    (hch : ∀ b ∈ ch, (b ∈ X.ex ∨ X.s₀.heap.objs.size ≤ b) ∧ b ≠ X.env.locals ∧ (∀ x c, X.env.cells.lookup x = some c → c ≠ b) ∧ ∀ p ∈ X.pn ++ pins, p.1 ≠ b)
    (keep : ∀ b o, b ≠ X.env.locals → b ∉ X.fs → b ∉ ch → s.heap.get? b = some o → H b = none → h'.get? b = some o)
    (slot : ∀ b o, b ≠ X.env.locals → b ∈ X.fs → b ∉ ch → s.heap.get? b = some o → H b = none → ∃ sl, h'.get? b = some { o with slots := sl }) (free : ∀ b o, b ∉ ch → s.heap.get? b = some o → H b = none → H' b = none)
    (there : ∀ b o, b ∉ ch → s.heap.get? b = some o → ∃ o', h'.get? b = some o')
    (tups : ∀ b xs, H b = some (.tup xs) → H' b = some (.tup xs)) (frzs : ∀ b o u, H b = some (.frz o u) → H' b = some (.frz o u)) (tbls : ∀ b ps, H b = some (.tbl ps) → ∃ more, H' b = some (.tbl (ps ++ more)))
    (ns : ∀ m, s.heap.Ns X.env.locals m → h'.Ns X.env.locals m) (hok : HOk X.prog X.w H' h') (hg : AllBare g') :
    Inv X pins σ H' { s with heap := h', gens := g', drawn := d', toks := t' } := by
  have neL : ∀ b o, X.s₀.heap.get? b = some o → b ≠ X.env.locals := fun b o e => Nat.ne_of_lt (Nat.lt_of_lt_of_le (Heap.lt_size e) I.ok.above)
  have neC : ∀ b o, X.s₀.heap.get? b = some o → b ∉ X.ex → b ∉ ch := fun b o e hx hb => by
    rcases (hch b hb).1 with z | z
    · exact hx z
    · exact absurd (Nat.lt_of_lt_of_le (Heap.lt_size e) z) (Nat.lt_irrefl _)
  have cellK : ∀ x c, X.env.cells.lookup x = some c → ∀ v, s.heap.IsCell c v → h'.IsCell c v := fun x c e v ⟨o, ho, hd⟩ => by
    have nch : c ∉ ch := fun z => (hch c z).2.2.1 x c e rfl
    by_cases hc : c ∈ X.fs
    · obtain ⟨sl, q⟩ := slot c o (I.cne x c e) hc nch ho (I.freeC x c e)
      exact ⟨_, q, hd⟩
    · exact ⟨o, keep c o (I.cne x c e) hc nch ho (I.freeC x c e), hd⟩
  refine ⟨I.ok, I.os, hg, ⟨fun b o e n hb hx => ?_, fun b o e n hb hx => ?_, fun b o e n hx => ?_, fun b o e hx => ?_, fun b xs e => tups b xs (I.base.tups b xs e), fun b o xs e => frzs b o xs (I.base.frzs b o xs e), fun b ps e => ?_⟩, ?_, fun x c e => ?_, ?_, fun x c e => ?_, fun p hp => ?_, hok, I.len⟩
  · exact keep b o (neL b o e) hb (neC b o e hx) (I.base.keep b o e n hb hx) (I.base.free b o e n hx)
  · obtain ⟨sl, e1⟩ := I.base.slot b o e n hb hx
    obtain ⟨sl', e2⟩ := slot b _ (neL b o e) hb (neC b o e hx) e1 (I.base.free b o e n hx)
    exact ⟨sl', e2⟩
  · obtain ⟨o', e1⟩ := I.base.there b o e hx
    exact free b o' (neC b o e hx) e1 (I.base.free b o e n hx)
  · obtain ⟨o', e1⟩ := I.base.there b o e hx
    exact there b o' (neC b o e hx) e1
  · obtain ⟨m1, e1⟩ := I.base.tbls b ps e
    obtain ⟨m2, e2⟩ := tbls b _ e1
    exact ⟨m1 ++ m2, by rw [e2, Array.append_assoc]⟩
  · obtain ⟨m, hn, hl⟩ := I.loc
    refine ⟨m, ns m hn, fun i x v e1 e2 e3 => ?_⟩
    obtain ⟨u, r, l⟩ := hl i x v e1 e2 e3
    refine ⟨u, r, ?_⟩
    rcases l with l | ⟨k, c, e, z⟩
    · exact .inl l
    · exact .inr ⟨k, c, e, cellK x c e _ z⟩
  · obtain ⟨v, z⟩ := I.cell x c e
    exact ⟨v, cellK x c e v z⟩
  · obtain ⟨m, ⟨o, _, _, ho, _⟩, _⟩ := I.loc
    exact free _ o (fun z => (hch _ z).2.1 rfl) ho I.free
  · obtain ⟨v, o, ho, hd⟩ := I.cell x c e
    exact free c o (fun z => (hch c z).2.2.1 x c e rfl) ho (I.freeC x c e)
  · obtain ⟨e, n, ne, nf, d⟩ := I.pin p hp
    have nch : p.1 ∉ ch := fun z => (hch p.1 z).2.2.2 p hp rfl
    exact ⟨keep p.1 p.2 ne nf nch e n, free p.1 p.2 nch e n, ne, nf, d⟩
theorem Inv.un {t' : Nat} (I : Inv X pins σ H s) (u : Un X.fs [] H H' s.heap h') (hok : HOk X.prog X.w H' h') : Inv X pins σ H' { s with heap := h', toks := t' } := by
  obtain ⟨m, ⟨o, es, ep, ho, r⟩, _⟩ := id I.loc
  obtain ⟨sl, hL⟩ := u.any ho I.free (by simp)
  exact I.step (g' := s.gens) (d' := s.drawn) (ch := []) (fun _ z => nomatch z) (fun b o _ hb _ e n => u.keep b o e n hb (by simp)) (fun b o _ hb _ e n => u.slot b o e n hb (by simp)) (fun b o _ e n => u.free b o e n (by simp)) (fun b o _ e => u.there b o e (by simp)) u.tups u.frzs u.tbls (fun m' hm => by
    obtain ⟨o', es', ep', ho', r'⟩ := hm
    rw [ho] at ho'; cases ho'
    exact ⟨_, es', ep', hL, r'⟩) hok I.bare
theorem Inv.call {g' : Array GenState} {t' : Nat} {d' : Drawn} {ch : List Addr} (I : Inv X pins σ H s) (u : Un (frs X.stack) ch H H' s.heap h') (hok : HOk X.prog X.w H' h') (hg : AllBare g')
    (hch : ∀ b ∈ ch, (b ∈ X.ex ∨ X.s₀.heap.objs.size ≤ b) ∧ b ≠ X.env.locals ∧ (∀ x c, X.env.cells.lookup x = some c → c ≠ b) ∧ ∀ p ∈ X.pn ++ pins, p.1 ≠ b) :
    Inv X pins σ H' { s with heap := h', gens := g', drawn := d', toks := t' } := by
  obtain ⟨m, ⟨o, es, ep, ho, r⟩, _⟩ := id I.loc
  obtain ⟨sl, hL⟩ := u.any ho I.free fun z => (hch _ z).2.1 rfl
  exact I.step (ch := ch) hch (fun b o hL hb hc e n => u.keep b o e n (fun z => (List.mem_cons.mp (I.stkSub b z)).elim hL hb) hc) (fun b o _ _ hc e n => u.any e n hc) (fun b o hc e n => u.free b o e n hc) (fun b o hc e => u.there b o e hc) u.tups u.frzs u.tbls (fun m' hm => by
    obtain ⟨o', es', ep', ho', r'⟩ := hm
    rw [ho] at ho'; cases ho'
    exact ⟨_, es', ep', hL, r'⟩) hok hg
theorem Inv.turned {t' : Nat} {it : Addr} (I : Inv X pins σ H s) (k : ∀ b o, b ≠ it → s.heap.get? b = some o → h'.get? b = some o) (hn : H it = none) (hL : it ≠ X.env.locals)
    (h1 : it ∈ X.ex ∨ X.s₀.heap.objs.size ≤ it) (h2 : ∀ x c, X.env.cells.lookup x = some c → c ≠ it) (h3 : ∀ p ∈ X.pn ++ pins, p.1 ≠ it) : Inv X pins σ H { s with heap := h', toks := t' } := by
  have nit : ∀ b u, H b = some u → b ≠ it := fun b u e z => by rw [z, hn] at e; cases e
  refine I.step (g' := s.gens) (d' := s.drawn) (ch := [it]) (fun b hb => ?_) (fun b o _ _ hc e _ => k b o (fun z => hc (by simp [z])) e) (fun b o _ _ hc e _ => ⟨o.slots, k b o (fun z => hc (by simp [z])) e⟩) (fun _ _ _ _ n => n)
    (fun b o hc e => ⟨o, k b o (fun z => hc (by simp [z])) e⟩) (fun _ _ e => e) (fun _ _ _ e => e) (fun b ps e => ⟨#[], by rw [e]; simp⟩) (fun m hm => ?_) (fun b u e => ?_) I.bare
  · have e : b = it := by simpa using hb
    subst e
    exact ⟨h1, hL, h2, h3⟩
  · obtain ⟨o, es, ep, ho, r⟩ := hm
    exact ⟨o, es, ep, k _ o (Ne.symm hL) ho, r⟩
  · refine (I.hok b u e).stay (fun c v hc q => k c v ?_ q) (fun _ q => q) fun _ _ q => q
    rcases hc with z | z
    · rw [z]; exact nit b u e
    · exact nit c _ z
theorem Inv.tok (I : Inv X pins σ H s) (t : Nat) : Inv X pins σ H { s with toks := t } := I.un (h' := s.heap) (t' := t) Un.refl I.hok
theorem Inv.kept {t' : Nat} (I : Inv X pins σ H s) (k : ∀ b u, s.heap.get? b = some u → h'.get? b = some u) : Inv X pins σ H { s with heap := h', toks := t' } := I.un (Un.kept k) (I.hok.kept k)
theorem Inv.laid {a : Addr} {o : HO} {t' : Nat} (I : Inv X pins σ H s) (k : ∀ b u, s.heap.get? b = some u → h'.get? b = some u) (hp : s.heap.objs.size ≤ a) (new : ObjOk X.prog X.w (upd H a o) h' a o) :
    Inv X pins σ (upd H a o) { s with heap := h', toks := t' } := I.un (Un.laid k hp (I.hok.fresh hp)) (I.hok.laid k hp new)
theorem Inv.write {x e : Addr} {o : HO} {t' : Nat} (I : Inv X pins σ H s) (mu : Mut (H x)) (he : e = x ∨ H e = some (.own x)) (k : ∀ b u, b ≠ e → s.heap.get? b = some u → h'.get? b = some u) (heo : ∃ u, h'.get? e = some u)
    (new : ObjOk X.prog X.w (upd H x o) h' x o) : Inv X pins σ (upd H x o) { s with heap := h', toks := t' } := I.un (Un.write mu he k heo) (I.hok.write mu he k heo new)
theorem Inv.pins_of {pins' : List (Addr × Obj)} (I : Inv X pins σ H s) (h : ∀ p ∈ pins', s.heap.get? p.1 = some p.2 ∧ H p.1 = none ∧ p.1 ≠ X.env.locals ∧ p.1 ∉ X.fs ∧ ∀ v, p.2.data ≠ .cell v) : Inv X pins' σ H s :=
  ⟨I.ok, I.os, I.bare, I.base, I.loc, I.cell, I.free, I.freeC, fun p hp => (List.mem_append.mp hp).elim (fun z => I.pin p (List.mem_append_left _ z)) (h p), I.hok, I.len⟩
theorem nodup_ix {N : List Str} (hN : N.Nodup) {i j : Nat} {x : Str} (a : N[i]? = some x) (b : N[j]? = some x) : i = j := by
  obtain ⟨h1, e1⟩ := List.getElem?_eq_some_iff.mp a
  obtain ⟨h2, e2⟩ := List.getElem?_eq_some_iff.mp b
  exact (List.getElem_inj hN).mp (e1.trans e2.symm)
theorem store_ok2 {M : Model} {A : Around} {E : Value → Shared → Prop} {i : Nat} {x : Str} {v : V} {u : Value} {Q : Unit → Shared → Prop} (I : Inv X pins σ H s) (hN : X.N.Nodup) (hi : X.N[i]? = some x) (hx : Loc X.env.scope x) (r : RelV v u)
    (h : ∀ s', Inv X pins (σ.set i (some v)) H s' → (∃ a, Heap.SameBut a s.heap s'.heap ∧ (a = X.env.locals ∨ X.env.cells.lookup x = some a)) → Q () s') (hf : X.fn x = true ∨ X.env.scope.names.lookup x = some .local := by first | exact .inl rfl | exact .inr rfl | assumption) : wpAny M A (storeName X.env x u) Q E s := by
  obtain ⟨m, hn, hl⟩ := id I.loc
  have hcls : (X.env.scope.kind == .class || (X.env.scope.kind == .module && X.env.locals != X.env.globals)) = false := by rw [I.ok.kind]; rfl
  have hiσ : i < σ.length := by rw [I.len]; exact (List.getElem?_eq_some_iff.mp hi).1
  have cne := I.cne
  have tracked : ∀ {a : Addr} {h' : Heap}, (∃ o, s.heap.get? a = some o ∧ H a = none) → Heap.SameBut a s.heap h' → HOk X.prog X.w H h' := fun {a h'} ha hs b ob e => by
    obtain ⟨_, _, hfree⟩ := ha
    refine (I.hok b ob e).stay (fun c w' hc q => (hs.2 c ?_).trans q) (fun _ q => q) fun _ _ q => q
    rintro rfl
    rcases hc with rfl | hc
    · rw [hfree] at e; cases e
    · rw [hfree] at hc; cases hc
  rcases hx with hk | hk
  · refine wpAny_storeName_local hk hn (fun h' hn' hs => ?_) hcls
    obtain ⟨oL, _, _, hoL, _⟩ := id hn
    refine h _ ⟨I.ok, I.os, I.bare, ⟨fun b o e n hb hx => ?_, fun b o e n hb hx => ?_, I.base.free, fun b o e hx => ?_, I.base.tups, I.base.frzs, I.base.tbls⟩, ⟨_, hn', fun j y v' e1 e2 e3 => ?_⟩, fun y c e => ?_, I.free, I.freeC, fun p hp => ?_, tracked ⟨oL, hoL, I.free⟩ hs, by simpa using I.len⟩ ⟨_, hs, .inl rfl⟩
    · exact (hs.2 b (Nat.ne_of_lt (Nat.lt_of_lt_of_le (Heap.lt_size e) I.ok.above))).trans (I.base.keep b o e n hb hx)
    · obtain ⟨sl, e1⟩ := I.base.slot b o e n hb hx
      exact ⟨sl, (hs.2 b (Nat.ne_of_lt (Nat.lt_of_lt_of_le (Heap.lt_size e) I.ok.above))).trans e1⟩
    · obtain ⟨o', e1⟩ := I.base.there b o e hx
      exact ⟨o', (hs.2 b (Nat.ne_of_lt (Nat.lt_of_lt_of_le (Heap.lt_size e) I.ok.above))).trans e1⟩
    · by_cases hj : j = i
      · subst hj
        rw [hi] at e1; cases e1
        rw [List.getElem?_set_self hiσ] at e2
        cases e2
        exact ⟨u, r, .inl ⟨hk, by simp⟩⟩
      · rw [List.getElem?_set_ne (Ne.symm hj)] at e2
        obtain ⟨u', r', q⟩ := hl j y v' e1 e2 e3
        refine ⟨u', r', ?_⟩
        rcases q with ⟨k, e⟩ | ⟨k, c, e, z⟩
        · refine .inl ⟨k, ?_⟩
          have : y ≠ x := fun e => hj (nodup_ix hN e1 (e ▸ hi))
          simp [this, e]
        · exact .inr ⟨k, c, e, z.sameBut hs (cne y c e)⟩
    · obtain ⟨w', z⟩ := I.cell y c e
      exact ⟨w', z.sameBut hs (cne y c e)⟩
    · obtain ⟨e, n, ne, nf, d⟩ := I.pin p hp
      exact ⟨(hs.2 p.1 ne).trans e, n, ne, nf, d⟩
  · have hfn : X.fn x = true := by
      rcases hf with z | z
      · exact z
      · rw [z] at hk; cases hk
    obtain ⟨c, hc⟩ := I.ok.has x (.inl hk)
    obtain ⟨w', z⟩ := I.cell x c hc
    refine wpAny_storeName_cell I.ok.kind hk hc z (fun h' hc' hs => ?_)
    obtain ⟨oc, hoc, hocd⟩ := id z
    refine h { s with heap := h' } ⟨I.ok, I.os, I.bare, ⟨fun b o e n hb hx => ?_, fun b o e n hb hx => ?_, I.base.free, fun b o e hx => ?_, I.base.tups, I.base.frzs, I.base.tbls⟩, ⟨m, hn.sameBut hs (Ne.symm (cne x c hc)), fun j y v' e1 e2 e3 => ?_⟩, fun y c' e => ?_, I.free, I.freeC, fun p hp => ?_, tracked ⟨oc, hoc, I.freeC x c hc⟩ hs, by simpa using I.len⟩ ⟨c, hs, .inr hc⟩
    · exact (hs.2 b (Nat.ne_of_lt (Nat.lt_of_lt_of_le (Heap.lt_size e) (I.ok.cab x c hfn hc)))).trans (I.base.keep b o e n hb hx)
    · obtain ⟨sl, e1⟩ := I.base.slot b o e n hb hx
      exact ⟨sl, (hs.2 b (Nat.ne_of_lt (Nat.lt_of_lt_of_le (Heap.lt_size e) (I.ok.cab x c hfn hc)))).trans e1⟩
    · obtain ⟨o', e1⟩ := I.base.there b o e hx
      exact ⟨o', (hs.2 b (Nat.ne_of_lt (Nat.lt_of_lt_of_le (Heap.lt_size e) (I.ok.cab x c hfn hc)))).trans e1⟩
    · by_cases hj : j = i
      · subst hj
        rw [hi] at e1; cases e1
        rw [List.getElem?_set_self hiσ] at e2
        cases e2
        exact ⟨u, r, .inr ⟨.inl hk, c, hc, hc'⟩⟩
      · rw [List.getElem?_set_ne (Ne.symm hj)] at e2
        obtain ⟨u', r', q⟩ := hl j y v' e1 e2 e3
        refine ⟨u', r', ?_⟩
        rcases q with q | ⟨k, c', e, z'⟩
        · exact .inl q
        · refine .inr ⟨k, c', e, z'.sameBut hs ?_⟩
          rintro rfl
          exact hj (nodup_ix hN e1 (I.ok.inj _ _ _ e hc ▸ hi))
    · by_cases hcc : c' = c
      · subst hcc; exact ⟨_, hc'⟩
      · obtain ⟨w2, z2⟩ := I.cell y c' e
        exact ⟨w2, z2.sameBut hs hcc⟩
    · obtain ⟨e, n, ne, nf, d⟩ := I.pin p hp
      refine ⟨(hs.2 p.1 ?_).trans e, n, ne, nf, d⟩
      intro q
      rw [q, hoc] at e
      have q' : oc = p.2 := Option.some.inj e
      exact d w' (by rw [← q']; exact hocd)
theorem store_ok {M : Model} {A : Around} {E : Value → Shared → Prop} {i : Nat} {x : Str} {v : V} {u : Value} {Q : Unit → Shared → Prop} (I : Inv X pins σ H s) (hN : X.N.Nodup) (hi : X.N[i]? = some x) (hx : Loc X.env.scope x) (r : RelV v u)
    (h : ∀ s', Inv X pins (σ.set i (some v)) H s' → Q () s') (hf : X.fn x = true ∨ X.env.scope.names.lookup x = some .local := by first | exact .inl rfl | exact .inr rfl | assumption) : wpAny M A (storeName X.env x u) Q E s :=
  store_ok2 I hN hi hx r (fun s' I' _ => h s' I') hf
theorem Inv.call' {s' : Shared} {ch : List Addr} (I : Inv X pins σ H s) (ho : s'.os = s.os) (u : Un (frs X.stack) ch H H' s.heap s'.heap) (hok : HOk X.prog X.w H' s'.heap) (hg : AllBare s'.gens)
    (hch : ∀ b ∈ ch, (b ∈ X.ex ∨ X.s₀.heap.objs.size ≤ b) ∧ b ≠ X.env.locals ∧ (∀ x c, X.env.cells.lookup x = some c → c ≠ b) ∧ ∀ p ∈ X.pn ++ pins, p.1 ≠ b) : Inv X pins σ H' s' := by
  obtain ⟨h', g', d', t', o'⟩ := s'
  have e : o' = s.os := ho
  subst e
  exact I.call (g' := g') (t' := t') (d' := d') u hok hg hch
end
abbrev XK := Value → Option Addr → Hp → Prop
abbrev St := List (Option V)
abbrev VK := V → Hp → Prop
abbrev TE := St → Hp → VK → Prop
abbrev TT := St → Hp → (Bool → Hp → Prop) → Prop
abbrev TA := St → Hp → (List V → Hp → Prop) → Prop
structure Ends where
  nx : St → Hp → Prop
  rt : VK
  bk : St → Hp → Prop := fun _ _ => False
  ct : St → Hp → Prop := fun _ _ => False
abbrev TS := Ends → St → Hp → Prop
def EP (X : Cx) (pins : List (Addr × Obj)) (σ : St) (Q : VK) (u : Value) (s' : Shared) : Prop := ∃ v H', Inv X pins σ H' s' ∧ RelV v u ∧ Q v H'
def TP (X : Cx) (pins : List (Addr × Obj)) (σ : St) (Q : Bool → Hp → Prop) (b : Bool) (s' : Shared) : Prop := ∃ H', Inv X pins σ H' s' ∧ Q b H'
def AP (X : Cx) (pins : List (Addr × Obj)) (σ : St) (Q : List V → Hp → Prop) (us : List Value) (s' : Shared) : Prop := ∃ vs H', Inv X pins σ H' s' ∧ Vals vs us ∧ Q vs H'
def SP (X : Cx) (pins : List (Addr × Obj)) (D : Ends) (f : Flow) (s' : Shared) : Prop :=
  match f with
  | .next => ∃ σ' H', Inv X pins σ' H' s' ∧ D.nx σ' H'
  | .brk => ∃ σ' H', Inv X pins σ' H' s' ∧ D.bk σ' H'
  | .cont => ∃ σ' H', Inv X pins σ' H' s' ∧ D.ct σ' H'
  | .ret u => ∃ v σ' H', Inv X pins σ' H' s' ∧ RelV v u ∧ D.rt v H'
def PE (X : Cx) (e : Expr) (t : TE) : Prop :=
  ∀ (pins : List (Addr × Obj)) (s : Shared) (σ : St) (H : Hp) (Q : VK), Inv X pins σ H s → t σ H Q → wpAny (model X.prog X.w) X.A (eval e X.env) (EP X pins σ Q) X.xe s
def PT (X : Cx) (e : Expr) (t : TT) : Prop :=
  ∀ (pins : List (Addr × Obj)) (s : Shared) (σ : St) (H : Hp) (Q : Bool → Hp → Prop), Inv X pins σ H s → t σ H Q → wpAny (model X.prog X.w) X.A (isTrue e X.env (eval e X.env)) (TP X pins σ Q) X.xe s
def PW (X : Cx) (e : Expr) (t : TT) : Prop :=
  ∀ (whole : Sem Value) (pins : List (Addr × Obj)) (s : Shared) (σ : St) (H : Hp) (Q : Bool → Hp → Prop), Inv X pins σ H s → t σ H Q → wpAny (model X.prog X.w) X.A (isTrue e X.env whole) (TP X pins σ Q) X.xe s
theorem PW.pt {X : Cx} {e : Expr} {t : TT} (h : PW X e t) : PT X e t := h _
def PA (X : Cx) (es : List Expr) (t : TA) : Prop :=
  ∀ (pos : Pos) (pins : List (Addr × Obj)) (s : Shared) (σ : St) (H : Hp) (Q : List V → Hp → Prop), Inv X pins σ H s → t σ H Q → wpAny (model X.prog X.w) X.A (spliced (backTo pos (starEach es X.env))) (AP X pins σ Q) X.xe s
def PS (X : Cx) (st : Stmt) (t : TS) : Prop :=
  ∀ (pins : List (Addr × Obj)) (s : Shared) (σ : St) (H : Hp) (D : Ends), Inv X pins σ H s → t D σ H → wpAny (model X.prog X.w) X.A (exec st X.env) (SP X pins D) X.xe s
def PSs (X : Cx) (st : List Stmt) (t : TS) : Prop :=
  ∀ (pins : List (Addr × Obj)) (s : Shared) (σ : St) (H : Hp) (D : Ends), Inv X pins σ H s → t D σ H → wpAny (model X.prog X.w) X.A (execs st X.env) (SP X pins D) X.xe s
theorem thn {α : Type} {t : Sem α} {Q Q' : α → Shared → Prop} {M : Model} {A : Around} {E : Value → Shared → Prop} {s : Shared} (h : wpAny M A t Q E s) (hQ : ∀ a s, Q a s → Q' a s) : wpAny M A t Q' E s := wpAny_mono h hQ fun _ _ x => x
end L2
namespace L2
open PySem PySem.Spec PyProof.Rows
section
variable {X : Cx}
def tVar (i : Nat) : TE := fun σ H Q => ∃ v, σ[i]? = some (some v) ∧ Q v H
def tC (v : V) : TE := fun _ H Q => Q v H
theorem pe_var {i : Nat} {x : Str} {pos : Pos} (hN : X.N[i]? = some x) (hv : Vis X.env.scope x) (hd : (x == ("__debug__" : Str)) = false := by decide) (hcd : (x == ("__classdict__" : Str)) = false := by decide) : PE X (.Name x pos) (tVar i) := by
  intro pins s σ H Q I h
  obtain ⟨v, e, h⟩ := h
  obtain ⟨m, hn, hl⟩ := I.loc
  obtain ⟨u, r, l⟩ := hl i x v hN e hv
  have fin : EP X pins σ Q u s := ⟨v, H, I, r, h⟩
  rcases l with ⟨hk, hm⟩ | ⟨hk, c, hc, hcell⟩
  · exact wpAny_Name (wpAny_loadName_local I.ok.kind hk hn hm fin) hd
  · rcases hk with hk | hk
    · exact wpAny_Name (wpAny_loadName_cell I.ok.kind hk hc hcell fin) hd
    · exact wpAny_Name (wpAny_loadName_free I.ok.kind hk hc hcell fin hcd) hd
theorem pe_int {i j pos} : PE X (.Constant (.int i) j pos) (tC (.int i)) := fun _ _ _ H _ I h => wpAny_Constant_int ⟨.int i, H, I.tok _, ⟨_, rfl⟩, h⟩
theorem pe_bl {b j pos} : PE X (.Constant (.bool b) j pos) (tC (.bl b)) := fun _ _ _ H _ I h => Constant_bool ⟨.bl b, H, I, rfl, h⟩
theorem pe_non {j pos} : PE X (.Constant .none j pos) (tC .non) := fun _ _ _ H _ I h => Constant_none ⟨.non, H, I, rfl, h⟩
theorem pe_str {x j pos} : PE X (.Constant (.str x) j pos) (tC (.str x)) := fun _ _ _ H _ I h => Calls.Constant_str ⟨.str x, H, I.tok _, ⟨_, rfl⟩, h⟩
def Gl (X : Cx) (x : Str) : Prop := X.env.kindOf x = some .globalImplicit
theorem ld_glob {E : Value → Shared → Prop} {pins : List (Addr × Obj)} {s : Shared} {σ : St} {H : Hp} {x : Str} {u : Value} {pos : Pos} {Q : Value → Shared → Prop} (I : Inv X pins σ H s) (hg : Gl X x) (hm : X.mg x = some u) (h : Q u s)
    (hd : (x == ("__debug__" : Str)) = false := by decide) : wpAny (model X.prog X.w) X.A (eval (.Name x pos) X.env) Q E s :=
  Calls.Name_function_global I.ok.kind hg (Calls.loadGlobal_global (by rw [I.ok.glob]; exact I.mod.glob.keeps I.bk) hm h) hd
theorem ld_blt {E : Value → Shared → Prop} {pins : List (Addr × Obj)} {s : Shared} {σ : St} {H : Hp} {x : Str} {u : Value} {pos : Pos} {Q : Value → Shared → Prop} (I : Inv X pins σ H s) (hg : Gl X x) (hm : X.mg x = none) (hv : bootBuiltins x = some u) (h : Q u s)
    (hn : x ≠ "__name__" := by decide) (hd : (x == ("__debug__" : Str)) = false := by decide) : wpAny (model X.prog X.w) X.A (eval (.Name x pos) X.env) Q E s := by
  obtain ⟨mb, h1, h2⟩ := I.mod.blt
  exact Calls.Name_function_global I.ok.kind hg (Calls.loadGlobal_builtin (by rw [I.ok.glob]; exact I.mod.glob.keeps I.bk) hm (by rw [I.ok.blt]; exact h1.keeps I.bk) ((h2 x hn).trans hv) h) hd
theorem pe_glob {x : Str} {v : V} {u : Value} {pos : Pos} (hg : Gl X x) (hm : X.mg x = some u) (r : RelV v u) (hd : (x == ("__debug__" : Str)) = false := by decide) : PE X (.Name x pos) (tC v) :=
  fun _ _ _ H _ I h => ld_glob I hg hm ⟨v, H, I, r, h⟩ hd
theorem pe_bltn {x : Str} {v : V} {u : Value} {pos : Pos} (hg : Gl X x) (hm : X.mg x = none) (hv : bootBuiltins x = some u) (r : RelV v u) (hn : x ≠ "__name__" := by decide) (hd : (x == ("__debug__" : Str)) = false := by decide) : PE X (.Name x pos) (tC v) :=
  fun _ _ _ H _ I h => ld_blt I hg hm hv ⟨v, H, I, r, h⟩ hn hd
variable {a b : Expr} {ta tb : TE} {pos : Pos}
theorem nobehind (b : Expr) {op : CmpOp} (h : op ≠ .In) (h2 : op ≠ .NotIn) : behindInMarks op b = false := by
  have e1 : (op == CmpOp.In) = false := by cases op <;> first | rfl | exact absurd rfl h
  have e2 : (op == CmpOp.NotIn) = false := by cases op <;> first | rfl | exact absurd rfl h2
  cases b <;> simp [behindInMarks, e1, e2]
def tB (t : TE) : TT := fun σ H Q => t σ H fun x H1 => ∃ c, x = .bl c ∧ Q c H1
theorem pt_val {e : Expr} {t : TE} (h : PE X e t) (he : ∀ whole, isTrue e X.env whole = (do let v ← whole; standAt e.pos; holding [v] (truthy v)) := by intro _; rfl) : PT X e (tB t) := by
  intro pins s σ H Q I hw
  refine isTrue_plain (thn (h pins s σ H _ I hw) fun v s1 ⟨x, H1, I1, r1, q1⟩ => ?_) (he _)
  obtain ⟨d, rfl, q⟩ := q1
  cases r1
  exact wpAny_truthy_bool ⟨H1, I1, q⟩
variable {tA tB' : TT} {rest : List Expr}
def tAnd (t u : TT) : TT := fun σ H Q => t σ H fun c H1 => if c = true then u σ H1 Q else Q false H1
def tOr (t u : TT) : TT := fun σ H Q => t σ H fun c H1 => if c = true then Q true H1 else u σ H1 Q
def tNot (t : TT) : TT := fun σ H Q => t σ H fun c H1 => Q (!c) H1
theorem pw_and1 (ha : PT X a tA) : PW X (.BoolOp .And [a] pos) tA := by
  intro wh pins s σ H Q I h
  refine isTrue_and (thn (ha pins s σ H Q I h) fun c s1 e => ?_)
  cases c with
  | true => exact isTrue_and_nil e
  | false => exact e
theorem pw_or1 (ha : PT X a tA) : PW X (.BoolOp .Or [a] pos) tA := by
  intro wh pins s σ H Q I h
  refine isTrue_or (thn (ha pins s σ H Q I h) fun c s1 e => ?_)
  cases c with
  | false => exact isTrue_or_nil e
  | true => exact e
theorem pw_and (ha : PT X a tA) (hb : PW X (.BoolOp .And (b :: rest) pos) tB') : PW X (.BoolOp .And (a :: b :: rest) pos) (tAnd tA tB') := by
  intro wh pins s σ H Q I h
  refine isTrue_and (thn (ha pins s σ H _ I h) fun c s1 ⟨H1, I1, q1⟩ => ?_)
  cases c with
  | true => exact hb wh pins s1 σ H1 Q I1 q1
  | false => exact ⟨H1, I1, q1⟩
theorem pw_or (ha : PT X a tA) (hb : PW X (.BoolOp .Or (b :: rest) pos) tB') : PW X (.BoolOp .Or (a :: b :: rest) pos) (tOr tA tB') := by
  intro wh pins s σ H Q I h
  refine isTrue_or (thn (ha pins s σ H _ I h) fun c s1 ⟨H1, I1, q1⟩ => ?_)
  cases c with
  | true => exact ⟨H1, I1, q1⟩
  | false => exact hb wh pins s1 σ H1 Q I1 q1
theorem pt_not (ha : PT X a tA) : PT X (.UnaryOp .Not a pos) (tNot tA) := by
  intro pins s σ H Q I h
  exact isTrue_not (ha pins s σ H (fun c H1 => Q (!c) H1) I h)
def tAndV (ta tb : TE) : TE := fun σ H Q => ta σ H fun x H1 => ∃ c, x = .bl c ∧ if c = true then tb σ H1 Q else Q (.bl false) H1
def tNotV (ta : TE) : TE := fun σ H Q => ta σ H fun x H1 => ∃ c, x = .bl c ∧ Q (.bl (!c)) H1
theorem pe_one {op} {t : TE} (h : PE X a t) : PE X (.BoolOp op [a] pos) t := fun pins s σ H Q I hw => BoolOp_one (h pins s σ H Q I hw)
theorem pe_and (ha : PE X a ta) (hb : PE X (.BoolOp .And (b :: rest) pos) tb) : PE X (.BoolOp .And (a :: b :: rest) pos) (tAndV ta tb) := by
  intro pins s σ H Q I h
  refine BoolOp_and (thn (ha pins s σ H _ I h) fun v s1 ⟨x, H1, I1, r1, q1⟩ => ?_)
  obtain ⟨c, rfl, q1⟩ := q1
  cases r1
  refine wpAny_truthy_bool ?_
  cases c with
  | true => exact hb pins s1 σ H1 Q I1 q1
  | false => exact ⟨.bl false, H1, I1, rfl, q1⟩
theorem pe_not (ha : PE X a ta) : PE X (.UnaryOp .Not a pos) (tNotV ta) := by
  intro pins s σ H Q I h
  refine UnaryOp_ (thn (ha pins s σ H _ I h) fun v s1 ⟨x, H1, I1, r1, q1⟩ => ?_)
  obtain ⟨c, rfl, q1⟩ := q1
  cases r1
  exact not_of (wpAny_truthy_bool ⟨.bl (!c), H1, I1, rfl, q1⟩)
end
end L2
namespace L2
open PySem PySem.Spec PyProof.Rows
def SqL (K : PySem.W.Frag) (H : Hp) (a : Addr) (xs : List V) : Prop :=
  Rd H a (.lst xs) ∨
    ∃ (o : Obj) (its : Array Value) (n : Nat), K.lookup a = some o ∧ o.cls = .type "list" ∧ o.dict = none ∧ o.data = .seq its n ∧ its.size ≤ sizeLine ∧ Vals xs its.toList
def SqT (K : PySem.W.Frag) (H : Hp) (a : Addr) (xs : List V) : Prop :=
  Rd H a (.tup xs) ∨
    ∃ (o : Obj) (its : Array Value) (n : Nat), K.lookup a = some o ∧ o.cls = .type "tuple" ∧ o.data = .seq its n ∧ its.size ≤ sizeLine ∧ Vals xs its.toList
def absV : Value → Option V
  | .none => some .non
  | .bool b => some (.bl b)
  | .int i _ => some (.int i)
  | .str x _ => some (.str x)
  | .bytes b _ => some (.byt b)
  | .float b _ => some (.flt b)
  | .ref a => some (.ref a)
  | .type n => some (.ty n)
  | _ => none
theorem RelV.abs {x : V} {u : Value} (r : RelV x u) : absV u = some x := by
  cases x with
  | non => cases r; rfl
  | bl _ => cases r; rfl
  | int _ => obtain ⟨t, rfl⟩ := r; rfl
  | str _ => obtain ⟨t, rfl⟩ := r; rfl
  | byt _ => obtain ⟨t, rfl⟩ := r; rfl
  | flt _ => obtain ⟨t, rfl⟩ := r; rfl
  | ref _ => cases r; rfl
  | ty _ => cases r; rfl
theorem RelV.inj {x y : V} {u : Value} (r : RelV x u) (q : RelV y u) : x = y := Option.some.inj (r.abs.symm.trans q.abs)
theorem Vals.inj : ∀ {xs ys : List V} {us : List Value}, Vals xs us → Vals ys us → xs = ys
  | _, _, _, .nil, .nil => rfl
  | _, _, _, .cons r t, .cons r' t' => by rw [r.inj r', Vals.inj t t']
section
variable {X : Cx} {pins : List (Addr × Obj)} {σ : St} {H : Hp} {s : Shared} {a : Addr} {xs ys : List V}
theorem SqL.of {K : PySem.W.Frag} (h : H a = some (.lst xs)) : SqL K H a xs := .inl (.inl h)
theorem SqT.of {K : PySem.W.Frag} (h : H a = some (.tup xs)) : SqT K H a xs := .inl (.inl h)
theorem Inv.list (I : Inv X pins σ H s) (h : SqL X.K H a xs) : ∃ its : List Value, Vals xs its ∧ PlainL s.heap a its.toArray ∧ xs.length ≤ sizeLine := by
  rcases h with h | ⟨o, its, n, hk, hc, hd, hs, hz, r⟩
  · obtain ⟨z, its, n, r, e⟩ := h.ok I.hok
    exact ⟨its, r, ⟨_, n, e, rfl, rfl, rfl⟩, z⟩
  · refine ⟨its.toList, r, ⟨o, n, I.kIn a o hk, hc, hd, by simpa using hs⟩, ?_⟩
    have e := r.length
    simp only [Array.length_toList] at e
    omega
theorem Inv.tuple (I : Inv X pins σ H s) (h : SqT X.K H a xs) : ∃ its : List Value, Vals xs its ∧ IsTup s.heap a its.toArray ∧ xs.length ≤ sizeLine := by
  rcases h with h | ⟨o, its, n, hk, hc, hs, hz, r⟩
  · obtain ⟨z, its, r, p⟩ := h.ok I.hok
    exact ⟨its, r, p, z⟩
  · refine ⟨its.toList, r, ⟨o, I.kIn a o hk, hc, n, by simpa using hs⟩, ?_⟩
    have e := r.length
    simp only [Array.length_toList] at e
    omega
theorem Inv.list_inj (I : Inv X pins σ H s) (h : SqL X.K H a xs) (h' : SqL X.K H a ys) : xs = ys := by
  obtain ⟨its, r, ⟨o, n, e, _, _, d⟩, _⟩ := I.list h
  obtain ⟨its', r', ⟨o', n', e', _, _, d'⟩, _⟩ := I.list h'
  rw [e] at e'; cases e'
  rw [d] at d'
  injection d' with d1 _
  have : its = its' := by simpa using congrArg Array.toList d1
  subst this
  exact r.inj r'
theorem Inv.tuple_inj (I : Inv X pins σ H s) (h : SqT X.K H a xs) (h' : SqT X.K H a ys) : xs = ys := by
  obtain ⟨its, r, ⟨o, e, _, n, d⟩, _⟩ := I.tuple h
  obtain ⟨its', r', ⟨o', e', _, n', d'⟩, _⟩ := I.tuple h'
  rw [e] at e'; cases e'
  rw [d] at d'
  injection d' with d1 _
  have : its = its' := by simpa using congrArg Array.toList d1
  subst this
  exact r.inj r'
end
abbrev Cx.wish (X : Cx) (E : Value → Shared → Prop) : Cx := { X with xe := E }
abbrev Cx.nox (X : Cx) : Cx := X.wish fun _ _ => False
theorem Cx.Ok.wish {X : Cx} (ok : X.Ok) (E : Value → Shared → Prop) : (X.wish E).Ok :=
  ⟨ok.mod, ok.kind, ok.glob, ok.blt, ok.above, ok.inj, ok.has, ok.cab, ok.hd, ok.frames, ok.stk, ok.exf, ok.bs, ok.bsz, ok.noex, ok.exfs, ok.funs, ok.frf⟩
theorem Cx.Ok.unwish {X : Cx} {E : Value → Shared → Prop} (ok : (X.wish E).Ok) : X.Ok :=
  ⟨ok.mod, ok.kind, ok.glob, ok.blt, ok.above, ok.inj, ok.has, ok.cab, ok.hd, ok.frames, ok.stk, ok.exf, ok.bs, ok.bsz, ok.noex, ok.exfs, ok.funs, ok.frf⟩
section
variable {X : Cx} {pins : List (Addr × Obj)} {σ : St} {H : Hp} {s : Shared} {E : Value → Shared → Prop}
theorem Inv.wish (I : Inv X pins σ H s) (E : Value → Shared → Prop) : Inv (X.wish E) pins σ H s := ⟨I.ok.wish E, I.os, I.bare, I.base, I.loc, I.cell, I.free, I.freeC, I.pin, I.hok, I.len⟩
theorem Inv.unwish (I : Inv (X.wish E) pins σ H s) : Inv X pins σ H s := ⟨I.ok.unwish, I.os, I.bare, I.base, I.loc, I.cell, I.free, I.freeC, I.pin, I.hok, I.len⟩
theorem SP.unwish {D : Ends} {f : Flow} {s' : Shared} (h : SP (X.wish E) pins D f s') : SP X pins D f s' := by
  cases f with
  | next => obtain ⟨σ', H', I, q⟩ := h; exact ⟨σ', H', I.unwish, q⟩
  | brk => obtain ⟨σ', H', I, q⟩ := h; exact ⟨σ', H', I.unwish, q⟩
  | cont => obtain ⟨σ', H', I, q⟩ := h; exact ⟨σ', H', I.unwish, q⟩
  | ret u => obtain ⟨v, σ', H', I, r, q⟩ := h; exact ⟨v, σ', H', I.unwish, r, q⟩
theorem PSs.nox {st : List Stmt} {t : TS} (h : PSs X.nox st t) : PSs X st t := fun pins s σ H D I hw =>
  wpAny_mono (h pins s σ H D (I.wish _) hw) (fun _ _ q => q.unwish) fun _ _ z => False.elim z
end
section
variable {X : Cx} {st : Stmt} {rest : List Stmt} {t u : TS} {e : Expr} {te : TE} {pos : Pos}
def tNext : TS := fun D σ H => D.nx σ H
def tSeq (t u : TS) : TS := fun D σ H => t { D with nx := u D } σ H
theorem pss_nil : PSs X [] tNext := fun _ _ σ H _ I h => wpAny_execs_nil ⟨σ, H, I, h⟩
theorem pss_cons (h1 : PS X st t) (h2 : PSs X rest u) : PSs X (st :: rest) (tSeq t u) := by
  intro pins s σ H D I h
  refine wpAny_execs_cons (thn (h1 pins s σ H { D with nx := u D } I h) fun f s1 q => ?_)
  cases f with
  | next =>
    obtain ⟨σ', H', I', q⟩ := q
    exact h2 pins s1 σ' H' D I' q
  | ret v => exact q
  | brk => exact q
  | cont => exact q
theorem pss_one (h1 : PS X st t) : PSs X [st] t := by
  intro pins s σ H D I h
  refine wpAny_execs_cons (thn (h1 pins s σ H D I h) fun f s1 q => ?_)
  cases f with
  | next => exact wpAny_execs_nil q
  | ret v => exact q
  | brk => exact q
  | cont => exact q
theorem Inv.quiet {pins : List (Addr × Obj)} {σ : St} {H : Hp} {s : Shared} (I : Inv X pins σ H s) : interactive X.env = false := by simp [interactive, I.ok.kind]
def tDrop (te : TE) : TS := fun D σ H => te σ H fun _ H1 => D.nx σ H1
theorem ps_expr (he : PE X e te) (hs : swapsWith e none pos.line X.env = pure false := by rfl) : PS X (.Expr e pos) (tDrop te) := by
  intro pins s σ H D I h
  exact wpAny_Expr_any (thn (he pins s σ H _ I h) fun v s1 ⟨x, H1, I1, r1, q1⟩ => ⟨σ, H1, I1, q1⟩) I.quiet hs
def tRet (te : TE) : TS := fun D σ H => te σ H D.rt
theorem ps_ret (he : PE X e te) : PS X (.Return (some e) pos) (tRet te) := by
  intro pins s σ H D I h
  exact wpAny_Return_some (thn (he pins s σ H _ I h) fun v s1 ⟨x, H1, I1, r1, q1⟩ => ⟨x, σ, H1, I1, r1, q1⟩)
def tIfS (c : TT) (t u : TS) : TS := fun D σ H => c σ H fun b H1 => if b = true then t D σ H1 else u D σ H1
theorem ps_if {c : Expr} {a b : List Stmt} {tc : TT} (hc : PT X c tc) (ha : PSs X a t) (hb : PSs X b u) : PS X (.If c a b pos) (tIfS tc t u) := by
  intro pins s σ H D I h
  refine wpAny_If (thn (hc pins s σ H _ I h) fun d s1 ⟨H1, I1, q1⟩ => ?_)
  cases d with
  | true => exact ha pins s1 σ H1 D I1 q1
  | false => exact hb pins s1 σ H1 D I1 q1
end
abbrev TG := V → St → Hp → (St → Hp → Prop) → Prop
abbrev TGs := List V → St → Hp → (St → Hp → Prop) → Prop
def PG (X : Cx) (target : Expr) (t : TG) : Prop :=
  ∀ (pins : List (Addr × Obj)) (s : Shared) (σ : St) (H : Hp) (v : V) (u : Value) (Q : St → Hp → Prop), Inv X pins σ H s → RelV v u → t v σ H Q →
    wpAny (model X.prog X.w) X.A (assign target X.env u) (fun _ s' => ∃ σ' H', Inv X pins σ' H' s' ∧ Q σ' H') X.xe s
def PGs (X : Cx) (ts : List Expr) (t : TGs) : Prop :=
  ∀ (pins : List (Addr × Obj)) (s : Shared) (σ : St) (H : Hp) (vs : List V) (us : List Value) (Q : St → Hp → Prop), Inv X pins σ H s → Vals vs us → t vs σ H Q →
    wpAny (model X.prog X.w) X.A (assignInOrder ((assignEach ts X.env).map (·.2)) us) (fun _ s' => ∃ σ' H', Inv X pins σ' H' s' ∧ Q σ' H') X.xe s
abbrev TSet := V → V → V → Hp → (Hp → Prop) → Prop
def PSet (X : Cx) (t : TSet) : Prop :=
  ∀ (pins : List (Addr × Obj)) (s : Shared) (σ : St) (H : Hp) (o i v : V) (ov iv u : Value) (Q : Hp → Prop), Inv X pins σ H s → RelV o ov → RelV i iv → RelV v u → t o i v H Q →
    wpAny (model X.prog X.w) X.A (setItem ov iv u) (fun _ s' => ∃ H', Inv X pins σ H' s' ∧ Q H') X.xe s
abbrev TIp := V → V → Hp → VK → Prop
def PIp (X : Cx) (op : Operator) (t : TIp) : Prop :=
  ∀ (pins : List (Addr × Obj)) (s : Shared) (σ : St) (H : Hp) (x y : V) (v u : Value) (Q : VK), Inv X pins σ H s → RelV x v → RelV y u → t x y H Q →
    wpAny (model X.prog X.w) X.A (inplaceOp op v u) (EP X pins σ Q) X.xe s
section
variable {X : Cx} {pos : Pos}
def gName (i : Nat) : TG := fun v σ H Q => Q (σ.set i (some v)) H
theorem pg_name {i : Nat} {x : Str} (hN : X.N.Nodup) (hi : X.N[i]? = some x) (hx : Loc X.env.scope x) (hf : X.fn x = true ∨ X.env.scope.names.lookup x = some .local := by first | exact .inl rfl | exact .inr rfl | assumption) : PG X (.Name x pos) (gName i) := by
  intro pins s σ H v u Q I r h
  exact wpAny_assign_Name (store_ok I hN hi hx r (fun s' I' => ⟨_, H, I', h⟩) hf)
def gNil : TGs := fun vs σ H Q => vs = [] ∧ Q σ H
def gCons (t : TG) (u : TGs) : TGs := fun vs σ H Q => ∃ v r, vs = v :: r ∧ t v σ H fun σ' H' => u r σ' H' Q
theorem pgs_nil : PGs X [] gNil := by
  intro pins s σ H vs us Q I r h
  obtain ⟨e, h⟩ := h
  subst e
  cases r
  exact assignInOrder_nil ⟨σ, H, I, h⟩
theorem pgs_cons {e : Expr} {es : List Expr} {t : TG} {u : TGs} (h1 : PG X e t) (h2 : PGs X es u)
    (hs : (assignEach (e :: es) X.env).map (·.2) = assign e X.env :: (assignEach es X.env).map (·.2) := by rfl) : PGs X (e :: es) (gCons t u) := by
  intro pins s σ H vs us Q I r h
  obtain ⟨v, vr, e1, h⟩ := h
  subst e1
  cases r with
  | cons r rr =>
    rw [hs]
    refine assignInOrder_cons (thn (h1 pins s σ H _ _ _ I r h) fun _ s1 ⟨σ1, H1, I1, q1⟩ => ?_)
    exact h2 pins s1 σ1 H1 _ _ Q I1 rr q1
def gTup (K : PySem.W.Frag) (n : Nat) (t : TGs) : TG := fun v σ H Q => ∃ a xs, v = .ref a ∧ SqT K H a xs ∧ xs.length = n ∧ t xs σ H Q
theorem pg_tup {es : List Expr} {k : Nat} {t : TGs} {n : Nat} (hc : X.calm = true) (h : PGs X es t)
    (hn : (assignEach es X.env).length = n := by rfl) (hst : (assignEach es X.env).findIdx? (·.1) = none := by rfl) : PG X (.Tuple es k pos) (gTup X.K n t) := by
  intro pins s σ H v u Q I r hw
  obtain ⟨a, xs, e1, hq, hl, hw⟩ := hw
  subst e1
  cases r
  obtain ⟨its, rv, ht, hz⟩ := I.tuple hq
  refine assign_Tuple_tuple (I.ok.hd hc) ht (by simp [hn, ← hl, rv.length]) hst fun h' hx => ?_
  have I1 : Inv X pins σ H { s with heap := h' } := I.kept (t' := s.toks) fun b o e => hx b o (Nat.ne_of_lt (Heap.lt_size e)) e
  exact h pins _ σ H xs _ Q I1 (by simpa using rv) hw
def gSub (to ti : TE) (t : TSet) : TG := fun v σ H Q => to σ H fun o H1 => ti σ H1 fun i H2 => t o i v H2 fun H3 => Q σ H3
theorem pg_sub {o i : Expr} {to ti : TE} {t : TSet} (ho : PE X o to) (hi : PE X i ti) (hs : PSet X t)
    (ha : ∀ v, assign (.Subscript o i pos) X.env v = (do
      let ov ← holding [v] (eval o X.env)
      let iv ← holding [v, ov] (eval i X.env)
      standAt pos
      holding [v, ov, iv] (setItem ov iv v)
      release [v, ov, iv] []) := by intro _; rfl) : PG X (.Subscript o i pos) (gSub to ti t) := by
  intro pins s σ H v u Q I r h
  rw [ha]
  refine wpAny_bind (wpAny_holding (thn (ho pins s σ H _ I h) fun ov s1 ⟨x, H1, I1, r1, q1⟩ => ?_))
  refine wpAny_bind (wpAny_holding (thn (hi pins s1 σ H1 _ I1 q1) fun iv s2 ⟨y, H2, I2, r2, q2⟩ => ?_))
  refine wpAny_bind (wpAny_standAt (wpAny_bind (wpAny_holding (thn (hs pins s2 σ H2 x y v ov iv u _ I2 r1 r2 r q2) fun _ s3 ⟨H3, I3, q3⟩ => ?_))))
  exact wpAny_release ⟨σ, H3, I3, q3⟩
def tAsg (te : TE) (g : TG) : TS := fun D σ H => te σ H fun x H1 => g x σ H1 D.nx
theorem ps_asg {tg e : Expr} {te : TE} {g : TG} (he : PE X e te) (hg : PG X tg g) (hs : swapsWithSole [tg] e pos.line X.env = pure false := by rfl) (hw : swappedStores [tg] e X.env = pure none := by rfl)
    (h1 : (assignEach [tg] X.env).map (·.2) = [assign tg X.env] := by rfl) : PS X (.Assign [tg] e pos) (tAsg te g) := by
  intro pins s σ H D I h
  refine wpAny_Assign_stores (thn (he pins s σ H _ I h) fun v s1 ⟨x, H1, I1, r1, q1⟩ => ?_) hs hw
  rw [h1]
  exact thn (hg pins s1 σ H1 x v _ I1 r1 q1) fun _ s2 q => q
theorem ps_set {i : Nat} {x : Str} {e : Expr} {te : TE} {pos' : Pos} (hN : X.N.Nodup) (hi : X.N[i]? = some x) (hx : Loc X.env.scope x) (he : PE X e te) (hs : swapsWith e (some (.Name x pos')) pos.line X.env = pure false := by rfl) (hf : X.fn x = true ∨ X.env.scope.names.lookup x = some .local := by first | exact .inl rfl | exact .inr rfl | assumption) :
    PS X (.Assign [.Name x pos'] e pos) (tAsg te (gName i)) := by
  intro pins s σ H D I h
  refine wpAny_Assign_Name (thn (he pins s σ H _ I h) fun v s1 ⟨y, H1, I1, r1, q1⟩ => ?_) hs
  exact store_ok I1 hN hi hx r1 (fun s2 I2 => ⟨_, H1, I2, q1⟩) hf
def tAug (i : Nat) (te : TE) (ti : TIp) : TS := fun D σ H => ∃ x, σ[i]? = some (some x) ∧ te σ H fun y H1 => ti x y H1 fun z H2 => D.nx (σ.set i (some z)) H2
theorem ps_aug {i : Nat} {x : Str} {e : Expr} {te : TE} {op : Operator} {ti : TIp} {pos' : Pos} (hN : X.N.Nodup) (hi : X.N[i]? = some x) (hx : Loc X.env.scope x) (he : PE X e te) (ho : PIp X op ti) (hf : X.fn x = true ∨ X.env.scope.names.lookup x = some .local := by first | exact .inl rfl | exact .inr rfl | assumption) :
    PS X (.AugAssign (.Name x pos') op e pos) (tAug i te ti) := by
  intro pins s σ H D I h
  obtain ⟨v, e1, h⟩ := h
  obtain ⟨m, hn, hl⟩ := I.loc
  have vis : Vis X.env.scope x := by rcases hx with k | k; exact .inl k; exact .inr (.inl k)
  obtain ⟨u, r, l⟩ := hl i x v hi e1 vis
  refine wpAny_AugAssign_Name ?_
  have go : wpAny (model X.prog X.w) X.A (eval e X.env) (fun w s₂ => wpAny (model X.prog X.w) X.A (inplaceOp op u w) (fun r s₃ => wpAny (model X.prog X.w) X.A (storeName X.env x r) (fun _ => SP X pins D .next) X.xe s₃) X.xe s₂) X.xe s := by
    refine thn (he pins s σ H _ I h) fun w s1 ⟨y, H1, I1, r1, q1⟩ => ?_
    refine thn (ho pins s1 σ H1 v y u w _ I1 r r1 q1) fun z s2 ⟨zv, H2, I2, r2, q2⟩ => ?_
    exact store_ok I2 hN hi hx r2 (fun s3 I3 => ⟨_, H2, I3, q2⟩) hf
  rcases l with ⟨hk, hm⟩ | ⟨hk, c, hc, hcell⟩
  · exact wpAny_loadName_local I.ok.kind hk hn hm go
  · rcases hk with hk | hk
    · exact wpAny_loadName_cell I.ok.kind hk hc hcell go
    · rcases hx with k | k
      · have : X.env.scope.names.lookup x = some .free := hk
        rw [k] at this; cases this
      · have : X.env.scope.names.lookup x = some .free := hk
        rw [k] at this; cases this
def ipI (f : Int → Int → Int) : TIp := fun x y H Q => ∃ i j, x = .int i ∧ y = .int j ∧ Q (.int (f i j)) H
theorem ip_add : PIp X .Add (ipI fun i j => i + j) := by
  intro pins s σ H x y v u Q I r1 r2 h
  obtain ⟨i, j, e1, e2, q⟩ := h
  subst e1; subst e2
  obtain ⟨t, rfl⟩ := r1
  obtain ⟨t', rfl⟩ := r2
  exact iadd_int ⟨.int _, H, I.tok _, ⟨_, rfl⟩, q⟩
end
section
variable {X : Cx} {pos : Pos}
def tWhile (c : TT) (tb : TS) : TS := fun D σ H => ∃ W : Nat → St → Hp → Prop, (∃ m, W m σ H) ∧ ∀ m σ H, W m σ H →
  c σ H fun b H1 => if b = true then ∃ N : St → Hp → Prop, (∀ σ' H', N σ' H' → ∃ m', m' < m ∧ W m' σ' H') ∧ tb { D with nx := N, ct := N, bk := D.nx } σ H1 else D.nx σ H1
theorem ps_while {c : Expr} {body : List Stmt} {tc : TT} {tb : TS} (hp : PassesOwn (model X.prog X.w) X.A X.env X.xe) (hc : PT X c tc) (hb : PSs X body tb) : PS X (.While c body [] pos) (tWhile tc tb) := by
  intro pins s σ H D I h
  obtain ⟨W, ⟨m0, w0⟩, turn⟩ := h
  refine wpAny_While (codeAny_whileLoop (fun n s' => ∃ σ' H', Inv X pins σ' H' s' ∧ W n σ' H') ?_ m0 ⟨σ, H, I, w0⟩)
  rintro n s1 ⟨σ1, H1, I1, w1⟩
  refine wpAny_passesOwn hp (thn (hc pins s1 σ1 H1 _ I1 (turn n σ1 H1 w1)) fun b s2 ⟨H2, I2, q2⟩ => ?_)
  cases b with
  | true =>
    obtain ⟨N, hN, q2⟩ := q2
    rw [if_pos rfl]
    refine wpAny_passesOwn hp (thn (hb pins s2 σ1 H2 _ I2 q2) fun f s3 q3 => ?_)
    cases f with
    | next =>
      obtain ⟨σ3, H3, I3, n3⟩ := q3
      obtain ⟨m', hm, w3⟩ := hN σ3 H3 n3
      exact ⟨m', hm, σ3, H3, I3, w3⟩
    | cont =>
      obtain ⟨σ3, H3, I3, n3⟩ := q3
      obtain ⟨m', hm, w3⟩ := hN σ3 H3 n3
      exact ⟨m', hm, σ3, H3, I3, w3⟩
    | brk => exact q3
    | ret v => exact q3
  | false =>
    rw [if_neg Bool.false_ne_true]
    exact wpAny_execs_nil ⟨σ1, H2, I2, q2⟩
end
structure It where
  go : Nat → Hp → Prop
  yld : Nat → Hp → V → Hp → Prop
  stop : Nat → Hp → Prop
def FpOk (X : Cx) (pins : List (Addr × Obj)) (H : Hp) (b : Addr) : Prop :=
  H b = none ∧ b ≠ X.env.locals ∧ b ∉ X.fs ∧ (b ∈ X.ex ∨ X.s₀.heap.objs.size ≤ b) ∧ (∀ x c, X.env.cells.lookup x = some c → c ≠ b) ∧ ∀ p ∈ X.pn ++ pins, p.1 ≠ b
theorem Inv.fpOk {X : Cx} {pins : List (Addr × Obj)} {σ : St} {H H' : Hp} {s : Shared} {b : Addr} (I : Inv X pins σ H s) (hb : s.heap.objs.size ≤ b) (hn : H' b = none) : FpOk X pins H' b := by
  refine ⟨hn, Nat.ne_of_gt (Nat.lt_of_lt_of_le I.lt hb), I.nofs hb, .inr (Nat.le_trans I.sz hb), fun x c e z => ?_, fun p hp z => ?_⟩
  · obtain ⟨v, q⟩ := I.cell x c e
    exact absurd (Nat.lt_of_lt_of_le q.lt (by rw [z]; exact hb)) (Nat.lt_irrefl _)
  · exact absurd (Nat.lt_of_lt_of_le (Heap.lt_size (I.pin p hp).1) (by rw [z]; exact hb)) (Nat.lt_irrefl _)
structure Turn (P : Program) (w : World) (K : PySem.W.Frag) (tg : Expr) (J : It) (fp : List Addr) (it : Addr) (tn : Nat → Heap → Prop) : Prop where
  mem : it ∈ fp
  obj : ∀ i h, tn i h → ∀ b ∈ fp, ∃ o, h.get? b = some o ∧ ∀ v, o.data ≠ .cell v
  keep : ∀ i h h', tn i h → (∀ b ∈ fp, ∀ o, h.get? b = some o → h'.get? b = some o) → tn i h'
  item : ∀ (X : Cx), X.prog = P → X.w = w → X.K = K → X.calm = true → ∀ (i : Nat) (pins : List (Addr × Obj)) (s : Shared) (σ : St) (H : Hp) (E : Value → Shared → Prop), Inv X pins σ H s → (∀ b ∈ fp, FpOk X pins H b) → tn i s.heap → J.go i H →
    wpAny (model P w) X.A (pyNext (.ref it)) (fun r s1 => ∃ u, r = some u ∧
      wpAny (model P w) X.A (letOwnedTupleGo tg (.ref it) u) (fun _ s2 => ∃ x H', Inv X pins σ H' s2 ∧ RelV x u ∧ J.yld i H x H' ∧ tn (i + 1) s2.heap ∧ ∀ b ∈ fp, H' b = none) E s1) E s
  done : ∀ (X : Cx), X.prog = P → X.w = w → X.K = K → X.calm = true → ∀ (i : Nat) (pins : List (Addr × Obj)) (s : Shared) (σ : St) (H : Hp) (E : Value → Shared → Prop), Inv X pins σ H s → (∀ b ∈ fp, FpOk X pins H b) → tn i s.heap → J.stop i H →
    wpAny (model P w) X.A (pyNext (.ref it)) (fun r s1 => r = none ∧ Inv X pins σ H s1) E s
  self : ∀ (A : Around) (i : Nat) (s : Shared) (Q : Value → Shared → Prop) (E : Value → Shared → Prop), tn i s.heap → Q (.ref it) s → wpAny (model P w) A (pyIter (.ref it)) Q E s
abbrev TI := St → Hp → (It → Hp → Prop) → Prop
def PIE (X : Cx) (pins : List (Addr × Obj)) (σ : St) (tg : Expr) (R : It → Hp → Prop) (itv : Value) (s2 : Shared) : Prop :=
  ∃ (it : Addr) (fp : List Addr) (tn : Nat → Heap → Prop) (J : It) (H' : Hp), itv = .ref it ∧ Inv X pins σ H' s2 ∧ Turn X.prog X.w X.K tg J fp it tn ∧ tn 0 s2.heap ∧ (∀ b ∈ fp, FpOk X pins H' b) ∧ R J H'
def PI (X : Cx) (tg iter : Expr) (wi : TI) : Prop :=
  ∀ (pins : List (Addr × Obj)) (s : Shared) (σ : St) (H : Hp) (R : It → Hp → Prop), Inv X pins σ H s → wi σ H R →
    wpAny (model X.prog X.w) X.A (eval iter X.env) (fun v s1 => wpAny (model X.prog X.w) X.A (pyIter v) (PIE X pins σ tg R) X.xe s1) X.xe s
theorem go_of {M : Model} {A : Around} {E : Value → Shared → Prop} {s : Shared} {tg : Expr} {it : Addr} {u : Value} {o : Obj} {n : String} {vs : Array Value} {Q : Unit → Shared → Prop} (ho : s.heap.get? it = some o) (hc : o.cls = .type n) (hd : o.data = .fields vs)
    (hn : ["enumerate", "zip", "dict_itemiterator", "dict_reverseitemiterator", "odict_iterator", "itertools.zip_longest", "itertools.pairwise"].contains n = false) (hQ : Q () s) : wpAny M A (letOwnedTupleGo tg (.ref it) u) Q E s := by
  unfold letOwnedTupleGo
  cases tg <;> first
    | exact wpAny_pure hQ
    | (cases u <;> first
        | exact wpAny_pure hQ
        | (refine wpAny_bind (wpAny_load ho ?_)
           rw [hc, hd]
           show wpAny M A (if (["enumerate", "zip", "dict_itemiterator", "dict_reverseitemiterator", "odict_iterator", "itertools.zip_longest", "itertools.pairwise"].contains n && vs[0]? == some (rawInt _)) = true then _ else _) Q E s
           rw [if_neg (by intro h; rw [hn, Bool.false_and] at h; cases h)]
           exact wpAny_pure hQ))
def Itl (K : PySem.W.Frag) (a : Addr) : It :=
  ⟨fun i H => ∃ xs x, SqL K H a xs ∧ xs[i]? = some x, fun i H x H' => H' = H ∧ ∀ xs, SqL K H a xs → xs[i]? = some x, fun i H => ∃ xs, SqL K H a xs ∧ xs.length ≤ i⟩
def Itt (K : PySem.W.Frag) (a : Addr) : It :=
  ⟨fun i H => ∃ xs x, SqT K H a xs ∧ xs[i]? = some x, fun i H x H' => H' = H ∧ ∀ xs, SqT K H a xs → xs[i]? = some x, fun i H => ∃ xs, SqT K H a xs ∧ xs.length ≤ i⟩
def Itr (lo : Int) (n : Nat) : It := ⟨fun i _ => i < n, fun i H x H' => H' = H ∧ x = .int (lo + i), fun i _ => n ≤ i⟩
theorem turn_list {P : Program} {w : World} {K : PySem.W.Frag} {tg : Expr} (a it : Addr) : Turn P w K tg (Itl K a) [it] it (fun i h => h.IsListIter it a i) where
  mem := by simp
  obj := fun i h st b hb => by
    have e : b = it := by simpa using hb
    subst e
    obtain ⟨o, e, c, d⟩ := st
    exact ⟨o, e, fun v z => by rw [d] at z; cases z⟩
  keep := fun i h h' st k => st.at fun o e => k it (by simp) o e
  item := by
    intro X hP hw hK hc i pins s σ H E I hf st hg
    subst hP hw hK
    obtain ⟨xs, x, hq, hx⟩ := hg
    obtain ⟨its, rv, p, hz⟩ := I.list hq
    obtain ⟨u, hu, ru⟩ := rv.get hx
    obtain ⟨f0, f1, f2, f3, f4, f5⟩ := hf it (by simp)
    refine wpAny_pyNext_list_item st p.isList (x := u) (by simpa using hu) fun h' st' sb => ?_
    have I1 : Inv X pins σ H { s with heap := h' } := I.turned (t' := s.toks) (fun b o hb e => (sb.2 b hb).trans e) f0 f1 f3 f4 f5
    obtain ⟨o, e, c, d⟩ := id st'
    exact ⟨u, rfl, go_of (s := { s with heap := h' }) e c d (by decide) ⟨x, H, I1, ru, ⟨rfl, fun ys hy => by rw [I.list_inj hy hq]; exact hx⟩, st', fun b hb => (hf b hb).1⟩⟩
  done := by
    intro X hP hw hK hc i pins s σ H E I hf st hg
    subst hP hw hK
    obtain ⟨xs, hq, hx⟩ := hg
    obtain ⟨its, rv, p, hz⟩ := I.list hq
    obtain ⟨f0, f1, f2, f3, f4, f5⟩ := hf it (by simp)
    have hl := rv.length
    exact wpAny_pyNext_list_end (I.ok.hd hc) st p.isList (by simp; omega) fun h' eb => ⟨rfl, I.turned (t' := s.toks) (fun b o hb e => eb b o hb e) f0 f1 f3 f4 f5⟩
  self := fun _ _ _ _ _ st h => wpAny_pyIter_listiter st h
theorem turn_tuple {P : Program} {w : World} {K : PySem.W.Frag} {tg : Expr} (a it : Addr) : Turn P w K tg (Itt K a) [it] it (fun i h => h.IsTupleIter it a i) where
  mem := by simp
  obj := fun i h st b hb => by
    have e : b = it := by simpa using hb
    subst e
    obtain ⟨o, e, c, d⟩ := st
    exact ⟨o, e, fun v z => by rw [d] at z; cases z⟩
  keep := fun i h h' st k => st.at fun o e => k it (by simp) o e
  item := by
    intro X hP hw hK hc i pins s σ H E I hf st hg
    subst hP hw hK
    obtain ⟨xs, x, hq, hx⟩ := hg
    obtain ⟨its, rv, p, hz⟩ := I.tuple hq
    obtain ⟨u, hu, ru⟩ := rv.get hx
    obtain ⟨f0, f1, f2, f3, f4, f5⟩ := hf it (by simp)
    refine wpAny_pyNext_tuple_item st (show s.heap.IsTuple a its.toArray from p) (x := u) (by simpa using hu) fun h' st' sb => ?_
    have I1 : Inv X pins σ H { s with heap := h' } := I.turned (t' := s.toks) (fun b o hb e => (sb.2 b hb).trans e) f0 f1 f3 f4 f5
    obtain ⟨o, e, c, d⟩ := id st'
    exact ⟨u, rfl, go_of (s := { s with heap := h' }) e c d (by decide) ⟨x, H, I1, ru, ⟨rfl, fun ys hy => by rw [I.tuple_inj hy hq]; exact hx⟩, st', fun b hb => (hf b hb).1⟩⟩
  done := by
    intro X hP hw hK hc i pins s σ H E I hf st hg
    subst hP hw hK
    obtain ⟨xs, hq, hx⟩ := hg
    obtain ⟨its, rv, p, hz⟩ := I.tuple hq
    obtain ⟨f0, f1, f2, f3, f4, f5⟩ := hf it (by simp)
    have hl := rv.length
    exact wpAny_pyNext_tuple_end (I.ok.hd hc) st (show s.heap.IsTuple a its.toArray from p) (by simp; omega) fun h' eb => ⟨rfl, I.turned (t' := s.toks) (fun b o hb e => eb b o hb e) f0 f1 f3 f4 f5⟩
  self := fun _ _ _ _ _ st h => wpAny_pyIter_tupleiter st h
theorem turn_range {P : Program} {w : World} {K : PySem.W.Frag} {tg : Expr} (it : Addr) (lo : Int) (n : Nat) : Turn P w K tg (Itr lo n) [it] it (fun i h => IsRangeIter h it (lo + (i : Nat) * 1) ((n : Int) - (i : Nat)) 1) where
  mem := by simp
  obj := fun i h st b hb => by
    have e : b = it := by simpa using hb
    subst e
    exact ⟨_, st, fun v z => by
      have z' : Data.fields _ = Data.cell v := z
      cases z'⟩
  keep := fun i h h' st k => k it (by simp) _ st
  item := by
    intro X hP hw hK hc i pins s σ H E I hf st hg
    subst hP hw hK
    obtain ⟨f0, f1, f2, f3, f4, f5⟩ := hf it (by simp)
    have W := Walks.range (prog := X.prog) (w := X.w) (I.ok.hd hc) it lo 1 n
    refine W.item i s _ _ hg st fun v h' tk hv st' kk => ?_
    obtain ⟨t, rfl⟩ := hv
    have I1 : Inv X pins σ H { s with heap := h', toks := tk } := I.turned (fun b o hb e => kk b o (by simpa using hb) e) f0 f1 f3 f4 f5
    refine ⟨_, rfl, go_of (s := { s with heap := h', toks := tk }) (n := "range_iterator") st' rfl rfl (by decide) ⟨.int (lo + i), H, I1, ⟨t, ?_⟩, ⟨rfl, rfl⟩, st', fun b hb => (hf b hb).1⟩⟩
    rw [Int.mul_one]
  done := by
    intro X hP hw hK hc i pins s σ H E I hf st hg
    subst hP hw hK
    obtain ⟨f0, f1, f2, f3, f4, f5⟩ := hf it (by simp)
    exact wpAny_pyNext_range_end (I.ok.hd hc) st (by have : n ≤ i := hg; omega) fun h' eb => ⟨rfl, I.turned (t' := s.toks) (fun b o hb e => eb b o hb e) f0 f1 f3 f4 f5⟩
  self := fun _ _ _ _ _ st h => wpAny_pyIter_rangeiter st h
end L2
namespace L2
open PySem PySem.Spec PyProof.Rows
section
variable {X : Cx} {tg : Expr}
def iList (K : PySem.W.Frag) (tl : TE) : TI := fun σ H R => tl σ H fun x H1 => ∃ a, x = .ref a ∧ (∃ xs, SqL K H1 a xs) ∧ R (Itl K a) H1
def iTup (K : PySem.W.Frag) (tl : TE) : TI := fun σ H R => tl σ H fun x H1 => ∃ a, x = .ref a ∧ (∃ xs, SqT K H1 a xs) ∧ R (Itt K a) H1
theorem pi_list {l : Expr} {tl : TE} (hl : PE X l tl) : PI X tg l (iList X.K tl) := by
  intro pins s σ H R I h
  refine thn (hl pins s σ H _ I h) fun v s1 ⟨x, H1, I1, r1, q1⟩ => ?_
  obtain ⟨a, e, ⟨xs, hq⟩, q⟩ := q1
  subst e
  cases r1
  obtain ⟨its, rv, p, hz⟩ := I1.list hq
  refine wpAny_pyIter_list p.isList ?_
  refine ⟨s1.heap.objs.size, [s1.heap.objs.size], _, _, H1, rfl, I1.kept (t' := s1.toks) fun b o e => Heap.get?_push_of_some _ e, turn_list a _, ⟨_, Heap.get?_push_size _ rfl, rfl, rfl⟩, fun b hb => ?_, q⟩
  have e : b = s1.heap.objs.size := by simpa using hb
  subst e
  exact I1.fpOk (Nat.le_refl _) (I1.hok.fresh (Nat.le_refl _))
theorem pi_tup {l : Expr} {tl : TE} (hl : PE X l tl) : PI X tg l (iTup X.K tl) := by
  intro pins s σ H R I h
  refine thn (hl pins s σ H _ I h) fun v s1 ⟨x, H1, I1, r1, q1⟩ => ?_
  obtain ⟨a, e, ⟨xs, hq⟩, q⟩ := q1
  subst e
  cases r1
  obtain ⟨its, rv, p, hz⟩ := I1.tuple hq
  refine wpAny_pyIter_tuple (show s1.heap.IsTuple a its.toArray from p) ?_
  refine ⟨s1.heap.objs.size, [s1.heap.objs.size], _, _, H1, rfl, I1.kept (t' := s1.toks) fun b o e => Heap.get?_push_of_some _ e, turn_tuple a _, ⟨_, Heap.get?_push_size _ rfl, rfl, rfl⟩, fun b hb => ?_, q⟩
  have e : b = s1.heap.objs.size := by simpa using hb
  subst e
  exact I1.fpOk (Nat.le_refl _) (I1.hok.fresh (Nat.le_refl _))
theorem range_it {pins : List (Addr × Obj)} {σ : St} {H : Hp} {s : Shared} {R : It → Hp → Prop} {E : Value → Shared → Prop} {lo hi : Int} {t u v : Tok} {tk : Nat} (I : Inv X pins σ H s) (h1 : -(2 ^ 62) ≤ lo) (h2 : lo < 2 ^ 62) (h3 : -(2 ^ 62) ≤ hi) (h4 : hi < 2 ^ 62)
    (q : R (Itr lo (hi - lo).toNat) H) : wpAny (model X.prog X.w) X.A (pyIter (.ref s.heap.objs.size)) (PIE X pins σ tg R) E { s with heap := s.heap.push { cls := .type "range", data := .fields #[.int lo t, .int hi u, .int 1 v] }, toks := tk } := by
  refine wpAny_pyIter_range (IsRange.new ..) (small_one h1 h2 h3 h4) ?_
  have I1 : Inv X pins σ H { s with heap := s.heap.push { cls := .type "range", data := .fields #[.int lo t, .int hi u, .int 1 v] }, toks := tk } := I.kept fun b o e => Heap.get?_push_of_some _ e
  refine ⟨(s.heap.push { cls := .type "range", data := .fields #[.int lo t, .int hi u, .int 1 v] }).objs.size, [(s.heap.push { cls := .type "range", data := .fields #[.int lo t, .int hi u, .int 1 v] }).objs.size], _, _, H, rfl,
    I1.kept (t' := tk) fun b o e => Heap.get?_push_of_some _ e, turn_range _ lo (hi - lo).toNat, ?_, fun b hb => ?_, q⟩
  · have e1 : lo + ((0 : Nat) : Int) * 1 = lo := by simp
    have e2 : (((hi - lo).toNat : Nat) : Int) - ((0 : Nat) : Int) = Builtin.Range.rangeSize lo hi 1 := by rw [rangeSize_one]; split <;> omega
    show IsRangeIter _ _ (lo + ((0 : Nat) : Int) * 1) ((((hi - lo).toNat : Nat) : Int) - ((0 : Nat) : Int)) 1
    rw [e1, e2]
    exact Heap.get?_push_size _ rfl
  · have e : b = (s.heap.push { cls := .type "range", data := .fields #[.int lo t, .int hi u, .int 1 v] }).objs.size := by simpa using hb
    subst e
    exact I1.fpOk (Nat.le_refl _) (I1.hok.fresh (Nat.le_refl _))
def iRng1 (ta : TA) : TI := fun σ H R => ta σ H fun vs H1 => ∃ j : Int, vs = [.int j] ∧ -(2 ^ 62) ≤ j ∧ j < 2 ^ 62 ∧ R (Itr 0 j.toNat) H1
theorem pi_range1 {a : Expr} {ta : TA} {p pos : Pos} (hg : Gl X "range") (hm : X.mg "range" = none) (ha : PA X [a] ta) (hs : starEach [a] X.env = [(false, eval a X.env)] := by rfl) : PI X tg (.Call (.Name "range" p) [a] [] pos) (iRng1 ta) := by
  intro pins s σ H R I h
  refine Call_ (ld_blt I hg hm boot_range (PyProof.Rows.callWith_type1 (thn (ha pos pins s σ H _ I h) fun us s1 ⟨vs, H1, I1, r1, q1⟩ => ?_) hs rfl))
  obtain ⟨j, e, q1, q2, q⟩ := q1
  subst e
  cases r1 with
  | cons r rr =>
    cases rr
    obtain ⟨t, rfl⟩ := r
    exact call_range_1 (range_it I1 (by omega) (by omega) q1 q2 (by simpa using q))
def tFor (wi : TI) (g : TG) (tb : TS) : TS := fun D σ H => wi σ H fun J H1 => ∃ W : Nat → Nat → St → Hp → Prop, (∃ m, W 0 m σ H1) ∧ ∀ i m σ H, W i m σ H →
  (J.stop i H ∧ D.nx σ H) ∨ (J.go i H ∧ ∃ N : St → Hp → Prop, (∀ σ' H', N σ' H' → ∃ m', m' < m ∧ W (i + 1) m' σ' H') ∧ ∀ x H', J.yld i H x H' → g x σ H' fun σ2 H2 => tb { D with nx := N, ct := N, bk := D.nx } σ2 H2)
def pinsAt (fp : List Addr) (h : Heap) : List (Addr × Obj) := fp.filterMap fun b => (h.get? b).map fun o => (b, o)
theorem mem_pinsAt {fp : List Addr} {h : Heap} {b : Addr} {o : Obj} (hb : b ∈ fp) (e : h.get? b = some o) : (b, o) ∈ pinsAt fp h := List.mem_filterMap.mpr ⟨b, hb, by rw [e]; rfl⟩
theorem of_pinsAt {fp : List Addr} {h : Heap} {p : Addr × Obj} (hp : p ∈ pinsAt fp h) : p.1 ∈ fp ∧ h.get? p.1 = some p.2 := by
  obtain ⟨b, hb, e⟩ := List.mem_filterMap.mp hp
  cases q : h.get? b with
  | none => rw [q] at e; cases e
  | some o =>
    rw [q] at e
    have e' : (b, o) = p := Option.some.inj e
    subst e'
    exact ⟨hb, q⟩
theorem Inv.pinned {pins : List (Addr × Obj)} {σ : St} {H : Hp} {s : Shared} {fp : List Addr} (I : Inv X pins σ H s) (hf : ∀ b ∈ fp, FpOk X pins H b) (ho : ∀ b ∈ fp, ∃ o, s.heap.get? b = some o ∧ ∀ v, o.data ≠ .cell v) : Inv X (pins ++ pinsAt fp s.heap) σ H s :=
  I.pins_of fun p hp => (List.mem_append.mp hp).elim (fun z => I.pin p (List.mem_append_right _ z)) fun z => by
    obtain ⟨hb, e⟩ := of_pinsAt z
    obtain ⟨f0, f1, f2, _⟩ := hf p.1 hb
    obtain ⟨o, e', d⟩ := ho p.1 hb
    rw [e] at e'; cases e'
    exact ⟨e, f0, f1, f2, d⟩
theorem Inv.unpinned {pins pl : List (Addr × Obj)} {σ : St} {H : Hp} {s : Shared} (I : Inv X (pins ++ pl) σ H s) : Inv X pins σ H s := I.pins_of fun p hp => I.pin p (List.mem_append_right _ (List.mem_append_left _ hp))
theorem ps_for {iter : Expr} {body : List Stmt} {wi : TI} {g : TG} {tb : TS} {pos : Pos} (hp : PassesOwn (model X.prog X.w) X.A X.env X.xe) (hc : X.calm = true) (hi : PI X tg iter wi) (hg : PG X tg g) (hb : PSs X body tb)
    (hs : ∀ x, foldedSetIterable iter X.env x = pure x := by intro _; rfl) : PS X (.For tg iter body [] pos) (tFor wi g tb) := by
  intro pins s σ H D I h
  refine wpAny_For (thn (hi pins s σ H _ I h) fun v s1 h1 => thn h1 fun itv s2 h2 => ?_) hs
  obtain ⟨it, fp, tn, J, H2, e, I2, T, st2, f2, W, ⟨m0, w0⟩, turn⟩ := h2
  subst e
  -- what stays true of the iterator's objects through the loop
  have stat : ∀ {H' : Hp}, (∀ b ∈ fp, H' b = none) → ∀ b ∈ fp, FpOk X pins H' b := fun hn b hb => ⟨hn b hb, (f2 b hb).2⟩
  refine codeAny_forLoop_any (fun n s' => ∃ i σ' H', Inv X pins σ' H' s' ∧ tn i s'.heap ∧ (∀ b ∈ fp, H' b = none) ∧ W i n σ' H') ?_ m0 ⟨0, σ, H2, I2, st2, fun b hb => (f2 b hb).1, w0⟩
  rintro n s3 ⟨i, σ3, H3, I3, st3, fr3, w3⟩
  rcases turn i n σ3 H3 w3 with ⟨stop, qn⟩ | ⟨go, N, hN, step⟩
  · refine wpAny_passesOwn hp (thn (T.done X rfl rfl rfl hc i pins s3 σ3 H3 X.xe I3 (stat fr3) st3 stop) fun r s4 ⟨hr, I4⟩ => ?_)
    subst hr
    exact wpAny_execs_nil ⟨σ3, H3, I4, qn⟩
  · refine wpAny_passesOwn hp (thn (T.item X rfl rfl rfl hc i pins s3 σ3 H3 X.xe I3 (stat fr3) st3 go) fun r s4 ⟨u, hr, h4⟩ => ?_)
    subst hr
    refine wpAny_passesOwn hp (thn h4 fun _ s5 ⟨x, H5, I5, r5, y5, st5, fr5⟩ => ?_)
    have I5' := I5.pinned (stat fr5) (T.obj _ _ st5)
    refine wpAny_passesOwn hp (thn (hg _ s5 σ3 H5 x u _ I5' r5 (step x H5 y5)) fun _ s6 ⟨σ6, H6, I6, q6⟩ => ?_)
    refine wpAny_passesOwn hp (thn (hb _ s6 σ6 H6 _ I6 q6) fun f s7 q7 => ?_)
    have again : ∀ {σ7 : St} {H7 : Hp}, Inv X (pins ++ pinsAt fp s5.heap) σ7 H7 s7 → N σ7 H7 → ∃ m, m < n ∧ ∃ i σ' H', Inv X pins σ' H' s7 ∧ tn i s7.heap ∧ (∀ b ∈ fp, H' b = none) ∧ W i m σ' H' := fun {σ7 H7} I7 n7 => by
      obtain ⟨m', hm, w7⟩ := hN σ7 H7 n7
      refine ⟨m', hm, i + 1, σ7, H7, I7.unpinned, T.keep _ _ _ st5 fun b hb o e => (I7.pin (b, o) (List.mem_append_right _ (List.mem_append_right _ (mem_pinsAt hb e)))).1, fun b hb => ?_, w7⟩
      obtain ⟨o, e, d⟩ := T.obj _ _ st5 b hb
      exact (I7.pin (b, o) (List.mem_append_right _ (List.mem_append_right _ (mem_pinsAt hb e)))).2.1
    cases f with
    | next => obtain ⟨σ7, H7, I7, n7⟩ := q7; exact again I7 n7
    | cont => obtain ⟨σ7, H7, I7, n7⟩ := q7; exact again I7 n7
    | brk => obtain ⟨σ7, H7, I7, q7⟩ := q7; exact ⟨σ7, H7, I7.unpinned, q7⟩
    | ret v => obtain ⟨x7, σ7, H7, I7, r7, q7⟩ := q7; exact ⟨x7, σ7, H7, I7.unpinned, r7, q7⟩
end
theorem for_list {K : PySem.W.Frag} {a : Addr} {xs : List V} {g : TG} {tb : TS} {D : Ends} {σ : St} {H : Hp} (Pv : Nat → St → Hp → Prop) (h0 : Pv 0 σ H) (hl : ∀ i σ H, i ≤ xs.length → Pv i σ H → SqL K H a xs)
    (hs : ∀ i x σ H, xs[i]? = some x → Pv i σ H → g x σ H fun σ2 H2 => tb { D with nx := Pv (i + 1), ct := Pv (i + 1), bk := D.nx } σ2 H2) (hd : ∀ σ H, Pv xs.length σ H → D.nx σ H) :
    ∃ W : Nat → Nat → St → Hp → Prop, (∃ m, W 0 m σ H) ∧ ∀ i m σ H, W i m σ H →
      ((Itl K a).stop i H ∧ D.nx σ H) ∨ ((Itl K a).go i H ∧ ∃ N : St → Hp → Prop, (∀ σ' H', N σ' H' → ∃ m', m' < m ∧ W (i + 1) m' σ' H') ∧ ∀ x H', (Itl K a).yld i H x H' → g x σ H' fun σ2 H2 => tb { D with nx := N, ct := N, bk := D.nx } σ2 H2) := by
  refine ⟨fun i m σ H => m = xs.length - i ∧ i ≤ xs.length ∧ Pv i σ H, ⟨xs.length, by simp, Nat.zero_le _, h0⟩, ?_⟩
  rintro i m σ H ⟨rfl, hi, p⟩
  have q := hl i σ H hi p
  by_cases hlt : i < xs.length
  · refine .inr ⟨⟨xs, xs[i], q, by simp [hlt]⟩, Pv (i + 1), fun σ' H' p' => ⟨xs.length - (i + 1), by omega, rfl, hlt, p'⟩, fun x H' y => ?_⟩
    obtain ⟨e, y⟩ := y
    subst e
    exact hs i x σ _ (y xs q) p
  · have e : i = xs.length := by omega
    subst e
    exact .inl ⟨⟨xs, q, Nat.le_refl _⟩, hd σ H p⟩
theorem for_range {lo : Int} {n : Nat} {g : TG} {tb : TS} {D : Ends} {σ : St} {H : Hp} (Pv : Nat → St → Hp → Prop) (h0 : Pv 0 σ H)
    (hs : ∀ i σ H, i < n → Pv i σ H → g (.int (lo + i)) σ H fun σ2 H2 => tb { D with nx := Pv (i + 1), ct := Pv (i + 1), bk := D.nx } σ2 H2) (hd : ∀ σ H, Pv n σ H → D.nx σ H) :
    ∃ W : Nat → Nat → St → Hp → Prop, (∃ m, W 0 m σ H) ∧ ∀ i m σ H, W i m σ H →
      ((Itr lo n).stop i H ∧ D.nx σ H) ∨ ((Itr lo n).go i H ∧ ∃ N : St → Hp → Prop, (∀ σ' H', N σ' H' → ∃ m', m' < m ∧ W (i + 1) m' σ' H') ∧ ∀ x H', (Itr lo n).yld i H x H' → g x σ H' fun σ2 H2 => tb { D with nx := N, ct := N, bk := D.nx } σ2 H2) := by
  refine ⟨fun i m σ H => m = n - i ∧ i ≤ n ∧ Pv i σ H, ⟨n, by simp, Nat.zero_le _, h0⟩, ?_⟩
  rintro i m σ H ⟨rfl, hi, p⟩
  by_cases hlt : i < n
  · refine .inr ⟨hlt, Pv (i + 1), fun σ' H' p' => ⟨n - (i + 1), by omega, rfl, hlt, p'⟩, fun x H' y => ?_⟩
    obtain ⟨e, y⟩ := y
    subst e y
    exact hs i σ _ hlt p
  · have e : i = n := by omega
    subst e
    exact .inl ⟨Nat.le_refl _, hd σ H p⟩
end L2
namespace L2
open PySem PySem.Spec PyProof.Rows
abbrev R2 := V → V → Hp → VK → Prop
def OpR (X : Cx) (f : Value → Value → Sem Value) (r : R2) : Prop :=
  ∀ (pins : List (Addr × Obj)) (s : Shared) (σ : St) (H : Hp) (x y : V) (v u : Value) (Q : VK), Inv X pins σ H s → RelV x v → RelV y u → r x y H Q →
    wpAny (model X.prog X.w) X.A (f v u) (EP X pins σ Q) X.xe s
def UnR (X : Cx) (f : Value → Sem Value) (r : V → Hp → VK → Prop) : Prop :=
  ∀ (pins : List (Addr × Obj)) (s : Shared) (σ : St) (H : Hp) (x : V) (v : Value) (Q : VK), Inv X pins σ H s → RelV x v → r x H Q →
    wpAny (model X.prog X.w) X.A (f v) (EP X pins σ Q) X.xe s
def CallR (X : Cx) (f : Value) (r : List V → Hp → VK → Prop) : Prop :=
  ∀ (pins : List (Addr × Obj)) (s : Shared) (σ : St) (H : Hp) (xs : List V) (us : List Value) (Q : VK), Inv X pins σ H s → Vals xs us → r xs H Q →
    wpAny (model X.prog X.w) X.A (call f us) (EP X pins σ Q) X.xe s
def TruR (X : Cx) (r : V → Hp → (Bool → Hp → Prop) → Prop) : Prop :=
  ∀ (pins : List (Addr × Obj)) (s : Shared) (σ : St) (H : Hp) (x : V) (v : Value) (Q : Bool → Hp → Prop), Inv X pins σ H s → RelV x v → r x H Q →
    wpAny (model X.prog X.w) X.A (truthy v) (TP X pins σ Q) X.xe s
def tOp (r : R2) (ta tb : TE) : TE := fun σ H Q => ta σ H fun x H1 => tb σ H1 fun y H2 => r x y H2 Q
def tUn (r : V → Hp → VK → Prop) (ta : TE) : TE := fun σ H Q => ta σ H fun x H1 => r x H1 Q
def rI (C : Int → Int → Prop) (g : Int → Int → V) : R2 := fun x y H Q => ∃ i j, x = .int i ∧ y = .int j ∧ C i j ∧ Q (g i j) H
def rI0 (g : Int → Int → V) : R2 := fun x y H Q => ∃ i j, x = .int i ∧ y = .int j ∧ Q (g i j) H
def rU (g : Int → V) : V → Hp → VK → Prop := fun x H Q => ∃ i, x = .int i ∧ Q (g i) H
section
variable {X : Cx} {a b c : Expr} {ta tb tc : TE} {pos : Pos}
theorem binT (ha : PE X a ta) (hb : PE X b tb) {pins : List (Addr × Obj)} {s : Shared} {σ : St} {H : Hp} {R : V → V → Hp → Prop} (I : Inv X pins σ H s)
    (h : ta σ H fun x H1 => tb σ H1 fun y H2 => R x y H2) {Q : Value → Shared → Prop} {f : Value → Value → Sem Value}
    (hf : ∀ v u s2 x y H2, Inv X pins σ H2 s2 → RelV x v → RelV y u → R x y H2 → wpAny (model X.prog X.w) X.A (f v u) Q X.xe s2) :
    wpAny (model X.prog X.w) X.A (eval a X.env) (fun v s₁ => wpAny (model X.prog X.w) X.A (eval b X.env) (fun u s₂ => wpAny (model X.prog X.w) X.A (f v u) Q X.xe s₂) X.xe s₁) X.xe s := by
  refine thn (ha pins s σ H _ I h) fun v s1 ⟨x, H1, I1, r1, q1⟩ => ?_
  refine thn (hb pins s1 σ H1 _ I1 q1) fun u s2 ⟨y, H2, I2, r2, q2⟩ => ?_
  exact hf v u s2 x y H2 I2 r1 r2 q2
theorem pe_op {op : Operator} {r : R2} (ho : OpR X (binaryOp op) r) (ha : PE X a ta) (hb : PE X b tb) : PE X (.BinOp a op b pos) (tOp r ta tb) := by
  intro pins s σ H Q I h
  exact wpAny_BinOp (binT ha hb I h fun v u s2 x y H2 I2 rx ry q => ho pins s2 σ H2 x y v u Q I2 rx ry q)
theorem pe_un {op : UnaryOp} {r : V → Hp → VK → Prop} (ho : UnR X (unaryOp op) r) (ha : PE X a ta) : PE X (.UnaryOp op a pos) (tUn r ta) := by
  intro pins s σ H Q I h
  exact UnaryOp_ (thn (ha pins s σ H _ I h) fun v s1 ⟨x, H1, I1, r1, q1⟩ => ho pins s1 σ H1 x v Q I1 r1 q1)
theorem opI {f : Value → Value → Sem Value} {C : Int → Int → Prop} {g : Int → Int → Int}
    (rule : ∀ (i j : Int) (t u : Tok) (s : Shared) (Q : Value → Shared → Prop) (E : Value → Shared → Prop), C i j → Q (.int (g i j) s.toks) { s with toks := s.toks + 1 } → wpAny (model X.prog X.w) X.A (f (.int i t) (.int j u)) Q E s) :
    OpR X f (rI C fun i j => .int (g i j)) := by
  intro pins s σ H x y v u Q I rx ry h
  obtain ⟨i, j, rfl, rfl, hc, q⟩ := h
  obtain ⟨t, rfl⟩ := rx
  obtain ⟨t', rfl⟩ := ry
  exact rule i j t t' s _ _ hc ⟨.int (g i j), H, I.tok _, ⟨_, rfl⟩, q⟩
theorem opI0 {f : Value → Value → Sem Value} {g : Int → Int → Int}
    (rule : ∀ (i j : Int) (t u : Tok) (s : Shared) (Q : Value → Shared → Prop) (E : Value → Shared → Prop), Q (.int (g i j) s.toks) { s with toks := s.toks + 1 } → wpAny (model X.prog X.w) X.A (f (.int i t) (.int j u)) Q E s) :
    OpR X f (rI0 fun i j => .int (g i j)) := by
  intro pins s σ H x y v u Q I rx ry h
  obtain ⟨i, j, rfl, rfl, q⟩ := h
  obtain ⟨t, rfl⟩ := rx
  obtain ⟨t', rfl⟩ := ry
  exact rule i j t t' s _ _ ⟨.int (g i j), H, I.tok _, ⟨_, rfl⟩, q⟩
theorem opB0 {f : Value → Value → Sem Value} {g : Int → Int → Bool}
    (rule : ∀ (i j : Int) (t u : Tok) (s : Shared) (Q : Value → Shared → Prop) (E : Value → Shared → Prop), Q (.bool (g i j)) s → wpAny (model X.prog X.w) X.A (f (.int i t) (.int j u)) Q E s) :
    OpR X f (rI0 fun i j => .bl (g i j)) := by
  intro pins s σ H x y v u Q I rx ry h
  obtain ⟨i, j, rfl, rfl, q⟩ := h
  obtain ⟨t, rfl⟩ := rx
  obtain ⟨t', rfl⟩ := ry
  exact rule i j t t' s _ _ ⟨.bl (g i j), H, I, rfl, q⟩
def CDiv (i j : Int) : Prop := 0 < j ∧ j < 1073741824
def CPow (i j : Int) : Prop := 0 ≤ j ∧ j ≤ 1000000 ∧ i.natAbs < 2 ^ 64
def CMul (i j : Int) : Prop := (-(2 ^ 64) < i ∧ i < 2 ^ 64) ∨ (-(2 ^ 64) < j ∧ j < 2 ^ 64)
theorem CMul.ok {i j : Int} (h : CMul i j) : IntMulOk i j := by
  rcases h with ⟨h1, h2⟩ | ⟨h1, h2⟩
  · exact .of_left (intBits_le_64 h1 h2)
  · exact .of_right (intBits_le_64 h1 h2)
theorem op_add : OpR X (binaryOp .Add) (rI0 fun i j => .int (i + j)) := opI0 fun _ _ _ _ _ _ _ q => add_int q
theorem op_sub : OpR X (binaryOp .Sub) (rI0 fun i j => .int (i - j)) := opI0 fun _ _ _ _ _ _ _ q => sub_int q
theorem op_mul : OpR X (binaryOp .Mult) (rI CMul fun i j => .int (i * j)) := opI fun _ _ _ _ _ _ _ hc q => mul_int q hc.ok
theorem op_fdiv : OpR X (binaryOp .FloorDiv) (rI CDiv fun i j => .int (i / j)) := opI fun i j _ _ _ _ _ hc q => by
  have h1 : (0 : Int) < j := hc.1
  have h2 : j < 1073741824 := hc.2
  exact floordiv_int (by omega) (by rw [Int.fdiv_eq_ediv_of_nonneg i (by omega)]; exact q) (.inl (PyProof.noPylong_small (by omega)))
theorem op_mod : OpR X (binaryOp .Mod) (rI (fun _ j => 0 < j) fun i j => .int (i % j)) := opI fun i j _ _ _ _ _ hc q => by
  have h1 : (0 : Int) < j := hc
  exact mod_int' (by omega) (by rw [Int.fmod_eq_emod_of_nonneg i (by omega)]; exact q)
theorem op_pow : OpR X (binaryOp .Pow) (rI CPow fun i j => .int (i ^ j.toNat)) := opI fun _ _ _ _ _ _ _ hc q => pow_int_small hc.1 hc.2.1 hc.2.2 q
theorem unI {f : Value → Sem Value} {g : Int → Int}
    (rule : ∀ (i : Int) (t : Tok) (s : Shared) (Q : Value → Shared → Prop) (E : Value → Shared → Prop), Q (.int (g i) s.toks) { s with toks := s.toks + 1 } → wpAny (model X.prog X.w) X.A (f (.int i t)) Q E s) :
    UnR X f (rU fun i => .int (g i)) := by
  intro pins s σ H x v Q I rx h
  obtain ⟨i, rfl, q⟩ := h
  obtain ⟨t, rfl⟩ := rx
  exact rule i t s _ _ ⟨.int (g i), H, I.tok _, ⟨_, rfl⟩, q⟩
theorem un_neg : UnR X (unaryOp .USub) (rU fun i => .int (-i)) := unI fun _ _ _ _ _ q => neg_int q
end
def scal : V → V → Bool
  | .non, .non => true | .non, .int _ => true | .int _, .non => true | .non, .bl _ => true | .bl _, .non => true | .non, .str _ => true | .str _, .non => true
  | .int _, .int _ => true | .bl _, .bl _ => true | .str _, .str _ => true | .byt _, .byt _ => true
  | .int _, .str _ => true | .str _, .int _ => true | .bl _, .str _ => true | .str _, .bl _ => true
  | _, _ => false
def rEq : R2 := fun x y H Q => scal x y = true ∧ Q (.bl (decide (x = y))) H
def rNe : R2 := fun x y H Q => scal x y = true ∧ Q (.bl (!decide (x = y))) H
theorem dec_int {i j : Int} : decide (V.int i = V.int j) = (i == j) := by
  rw [Bool.eq_iff_iff]
  simp
theorem dec_bl {i j : Bool} : decide (V.bl i = V.bl j) = (i == j) := by
  rw [Bool.eq_iff_iff]
  simp
theorem dec_str {i j : Str} : decide (V.str i = V.str j) = (i == j) := by
  rw [Bool.eq_iff_iff]
  simp
theorem dec_byt {i j : Array UInt8} : decide (V.byt i = V.byt j) = (i.toList == j.toList) := by
  rw [Bool.eq_iff_iff]
  cases i
  cases j
  simp
section
variable {X : Cx} {a b c : Expr} {ta tb tc : TE} {pos : Pos}
theorem fin_bl {pins : List (Addr × Obj)} {σ : St} {H : Hp} {s : Shared} {Q : VK} {k k' : Bool} (I : Inv X pins σ H s) (q : Q (.bl k) H) (e : k = k') : EP X pins σ Q (.bool k') s := by
  subst e
  exact ⟨.bl k, H, I, rfl, q⟩
theorem op_eq : OpR X (compareOp .Eq) rEq := by
  intro pins s σ H x y v u Q I rx ry h
  obtain ⟨hs, q⟩ := h
  cases x with
  | non =>
    cases rx
    cases y with
    | non => cases ry; exact PySem.EqNone.eq_none_none (fin_bl I q (by simp))
    | bl j => cases ry; exact PySem.EqNone.eq_none_bool (fin_bl I q (by simp))
    | int j => obtain ⟨t', rfl⟩ := ry; exact PySem.EqNone.eq_none_int (fin_bl I q (by simp))
    | str j => obtain ⟨t', rfl⟩ := ry; exact PySem.EqNone.eq_none_str (fin_bl I q (by simp))
    | _ => exact absurd (show false = true from hs) Bool.false_ne_true
  | bl i =>
    cases rx
    cases y with
    | non => cases ry; exact PySem.EqNone.eq_bool_none (fin_bl I q (by simp))
    | bl j => cases ry; exact eq_bool (fin_bl I q dec_bl)
    | str j => obtain ⟨t', rfl⟩ := ry; exact PySem.EqMixed.eq_bool_str (fin_bl I q (by simp))
    | _ => exact absurd (show false = true from hs) Bool.false_ne_true
  | int i =>
    obtain ⟨t, rfl⟩ := rx
    cases y with
    | non => cases ry; exact PySem.EqNone.eq_int_none (fin_bl I q (by simp))
    | int j => obtain ⟨t', rfl⟩ := ry; exact eq_int (fin_bl I q dec_int)
    | str j => obtain ⟨t', rfl⟩ := ry; exact PySem.EqMixed.eq_int_str (fin_bl I q (by simp))
    | _ => exact absurd (show false = true from hs) Bool.false_ne_true
  | str i =>
    obtain ⟨t, rfl⟩ := rx
    cases y with
    | non => cases ry; exact PySem.EqNone.eq_str_none (fin_bl I q (by simp))
    | bl j => cases ry; exact PySem.EqMixed.eq_str_bool (fin_bl I q (by simp))
    | int j => obtain ⟨t', rfl⟩ := ry; exact PySem.EqMixed.eq_str_int (fin_bl I q (by simp))
    | str j => obtain ⟨t', rfl⟩ := ry; exact eq_str (fin_bl I q dec_str)
    | _ => exact absurd (show false = true from hs) Bool.false_ne_true
  | byt i =>
    obtain ⟨t, rfl⟩ := rx
    cases y with
    | byt j => obtain ⟨t', rfl⟩ := ry; exact PySem.W.eq_bytes (fin_bl I q dec_byt)
    | _ => exact absurd (show false = true from hs) Bool.false_ne_true
  | _ => cases y <;> exact absurd (show false = true from hs) Bool.false_ne_true
theorem op_ne : OpR X (compareOp .NotEq) rNe := by
  intro pins s σ H x y v u Q I rx ry h
  obtain ⟨hs, q⟩ := h
  cases x with
  | non =>
    cases rx
    cases y with
    | non => cases ry; exact PySem.EqNone.ne_none_none (fin_bl I q (by simp))
    | bl j => cases ry; exact PySem.EqNone.ne_none_bool (fin_bl I q (by simp))
    | int j => obtain ⟨t', rfl⟩ := ry; exact PySem.EqNone.ne_none_int (fin_bl I q (by simp))
    | str j => obtain ⟨t', rfl⟩ := ry; exact PySem.EqNone.ne_none_str (fin_bl I q (by simp))
    | _ => exact absurd (show false = true from hs) Bool.false_ne_true
  | bl i =>
    cases rx
    cases y with
    | non => cases ry; exact PySem.EqNone.ne_bool_none (fin_bl I q (by simp))
    | bl j => cases ry; exact ne_bool (fin_bl I q (congrArg not dec_bl))
    | str j => obtain ⟨t', rfl⟩ := ry; exact PySem.EqMixed.ne_bool_str (fin_bl I q (by simp))
    | _ => exact absurd (show false = true from hs) Bool.false_ne_true
  | int i =>
    obtain ⟨t, rfl⟩ := rx
    cases y with
    | non => cases ry; exact PySem.EqNone.ne_int_none (fin_bl I q (by simp))
    | int j => obtain ⟨t', rfl⟩ := ry; exact ne_int (fin_bl I q (congrArg not dec_int))
    | str j => obtain ⟨t', rfl⟩ := ry; exact PySem.EqMixed.ne_int_str (fin_bl I q (by simp))
    | _ => exact absurd (show false = true from hs) Bool.false_ne_true
  | str i =>
    obtain ⟨t, rfl⟩ := rx
    cases y with
    | non => cases ry; exact PySem.EqNone.ne_str_none (fin_bl I q (by simp))
    | bl j => cases ry; exact PySem.EqMixed.ne_str_bool (fin_bl I q (by simp))
    | int j => obtain ⟨t', rfl⟩ := ry; exact PySem.EqMixed.ne_str_int (fin_bl I q (by simp))
    | str j => obtain ⟨t', rfl⟩ := ry; exact ne_str (fin_bl I q (congrArg not dec_str))
    | _ => exact absurd (show false = true from hs) Bool.false_ne_true
  | byt i =>
    obtain ⟨t, rfl⟩ := rx
    cases y with
    | byt j => obtain ⟨t', rfl⟩ := ry; exact PySem.W.ne_bytes (fin_bl I q (congrArg not dec_byt))
    | _ => exact absurd (show false = true from hs) Bool.false_ne_true
  | _ => cases y <;> exact absurd (show false = true from hs) Bool.false_ne_true
theorem op_lt : OpR X (compareOp .Lt) (rI0 fun i j => .bl (decide (i < j))) := opB0 fun _ _ _ _ _ _ _ q => lt_int q
theorem op_le : OpR X (compareOp .LtE) (rI0 fun i j => .bl (decide (i ≤ j))) := opB0 fun _ _ _ _ _ _ _ q => le_int q
theorem op_gt : OpR X (compareOp .Gt) (rI0 fun i j => .bl (decide (j < i))) := opB0 fun _ _ _ _ _ _ _ q => gt_int q
theorem op_ge : OpR X (compareOp .GtE) (rI0 fun i j => .bl (decide (j ≤ i))) := opB0 fun _ _ _ _ _ _ _ q => ge_int q
theorem nomark (b : Expr) {op : CmpOp} (h : op ≠ .In := by decide) (h2 : op ≠ .NotIn := by decide) : behindInMarks op b = false := by
  have e1 : (op == CmpOp.In) = false := by cases op <;> first | rfl | exact absurd rfl h
  have e2 : (op == CmpOp.NotIn) = false := by cases op <;> first | rfl | exact absurd rfl h2
  cases b <;> simp [behindInMarks, e1, e2]
theorem pe_cmpR {op : CmpOp} {r : R2} (ho : OpR X (compareOp op) r) (ha : PE X a ta) (hb : PE X b tb) (hm : behindInMarks op b = false) : PE X (.Compare a [op] [b] pos) (tOp r ta tb) := by
  intro pins s σ H Q I h
  exact wpAny_Compare1 (binT ha hb I h fun v u s2 x y H2 I2 rx ry q => ho pins s2 σ H2 x y v u Q I2 rx ry q) hm
def tTest (t : TE) : TT := fun σ H Q => t σ H fun x H' => ∃ k, x = .bl k ∧ Q k H'
theorem pt_cmpR {op : CmpOp} {r : R2} (ho : OpR X (compareOp op) r) (ha : PE X a ta) (hb : PE X b tb) (hm : behindInMarks op b = false) : PT X (.Compare a [op] [b] pos) (tTest (tOp r ta tb)) := by
  intro pins s σ H Q I h
  refine wpAny_isTrue_Compare1 (thn (ha pins s σ H _ I h) fun v s1 ⟨x, H1, I1, r1, q1⟩ => thn (hb pins s1 σ H1 _ I1 q1) fun u s2 ⟨y, H2, I2, r2, q2⟩ =>
    thn (ho pins s2 σ H2 x y v u _ I2 r1 r2 q2) fun c s3 ⟨z, H3, I3, r3, k, e, q3⟩ => ?_) hm
  subst e
  cases r3
  exact wpAny_truthy_bool ⟨H3, I3, q3⟩
def tChain (r r' : R2) (ta tb tc : TE) : TE := fun σ H Q => ta σ H fun x H1 => tb σ H1 fun y H2 => r x y H2 fun z H3 => ∃ k, z = .bl k ∧
  (if k = true then tc σ H3 fun w' H4 => r' y w' H4 Q else Q (.bl false) H3)
theorem pe_chain {op op' : CmpOp} {r r' : R2} (ho : OpR X (compareOp op) r) (ho' : OpR X (compareOp op') r') (ha : PE X a ta) (hb : PE X b tb) (hc : PE X c tc)
    (hm : lastMarks [op, op'] [b, c] = false := by with_unfolding_all rfl) : PE X (.Compare a [op, op'] [b, c] pos) (tChain r r' ta tb tc) := by
  intro pins s σ H Q I h
  refine Compare_chain (thn (ha pins s σ H _ I h) fun v s1 ⟨x, H1, I1, r1, q1⟩ => chain_link (thn (hb pins s1 σ H1 _ I1 q1) fun u s2 ⟨y, H2, I2, r2, q2⟩ =>
    thn (ho pins s2 σ H2 x y v u _ I2 r1 r2 q2) fun d s3 ⟨z, H3, I3, r3, k, e, q3⟩ => ?_)) hm
  subst e
  cases r3
  refine wpAny_truthy_bool ?_
  cases k with
  | false => exact ite_ff ⟨.bl false, H3, I3, rfl, q3⟩
  | true => exact ite_tt (chain_last (thn (hc pins s3 σ H3 _ I3 q3) fun w' s4 ⟨z', H4, I4, r4, q4⟩ => ho' pins s4 σ H4 y z' u w' Q I4 r2 r4 q4))
theorem pt_chain {op op' : CmpOp} {r r' : R2} (ho : OpR X (compareOp op) r) (ho' : OpR X (compareOp op') r') (ha : PE X a ta) (hb : PE X b tb) (hc : PE X c tc)
    (hm : lastMarks [op, op'] [b, c] = false := by with_unfolding_all rfl) : PT X (.Compare a [op, op'] [b, c] pos) (tTest (tChain r r' ta tb tc)) := by
  intro pins s σ H Q I h
  refine isTrue_chain (thn (ha pins s σ H _ I h) fun v s1 ⟨x, H1, I1, r1, q1⟩ => test_link (thn (hb pins s1 σ H1 _ I1 q1) fun u s2 ⟨y, H2, I2, r2, q2⟩ =>
    thn (ho pins s2 σ H2 x y v u _ I2 r1 r2 q2) fun d s3 ⟨z, H3, I3, r3, k, e, q3⟩ => ?_)) hm
  subst e
  cases r3
  refine wpAny_truthy_bool ?_
  cases k with
  | false =>
    obtain ⟨k', e', q'⟩ := q3
    cases e'
    exact ite_ff ⟨H3, I3, q'⟩
  | true =>
    refine ite_tt (test_last (thn (hc pins s3 σ H3 _ I3 q3) fun w' s4 ⟨z', H4, I4, r4, q4⟩ => thn (ho' pins s4 σ H4 y z' u w' _ I4 r2 r4 q4) fun d' s5 ⟨z2, H5, I5, r5, k2, e2, q5⟩ => ?_))
    subst e2
    cases r5
    exact wpAny_truthy_bool ⟨H5, I5, q5⟩
def TruV (K : PySem.W.Frag) (x : V) (H : Hp) (k : Bool) : Prop :=
  match x with
  | .non => k = false
  | .bl b => k = b
  | .int i => k = (i != 0)
  | .str y => y.length ≤ sizeLine ∧ k = ((y.length : Int) != 0)
  | .byt y => y.size ≤ sizeLine ∧ k = ((y.size : Int) != 0)
  | .ref p => (∃ xs, SqL K H p xs ∧ k = !xs.isEmpty) ∨ (∃ xs, SqT K H p xs ∧ k = !xs.isEmpty) ∨ ∃ kvs, H p = some (.dK kvs) ∧ k = !kvs.isEmpty
  | _ => False
theorem isEmpty_kv {κ : Type} {kvs : List (κ × V)} {vs : List (κ × Value)} (r : KV kvs vs) : (!vs.isEmpty) = !kvs.isEmpty := by
  cases r <;> rfl
theorem isEmpty_of {xs : List V} {its : List Value} (r : Vals xs its) : (!its.toArray.isEmpty) = !xs.isEmpty := by
  cases r <;> simp
theorem line63 : (sizeLine : Nat) < 2 ^ 63 := by rw [sizeLine_eq]; decide
theorem tru_ok : TruR X (fun x H Q => ∃ k, TruV X.K x H k ∧ Q k H) := by
  intro pins s σ H x v Q I rx h
  obtain ⟨k, e, q⟩ := h
  have hl := line63
  have hs : sizeLine = 16777216 := sizeLine_eq
  cases x with
  | non =>
    cases rx
    have e' : k = false := e
    subst e'
    exact truthy_none ⟨H, I, q⟩
  | bl b =>
    cases rx
    have e' : k = b := e
    subst e'
    exact wpAny_truthy_bool ⟨H, I, q⟩
  | int i =>
    obtain ⟨t, rfl⟩ := rx
    have e' : k = (i != 0) := e
    subst e'
    exact PySem.P.truthy_int ⟨H, I, q⟩
  | str y =>
    obtain ⟨t, rfl⟩ := rx
    obtain ⟨hy, e'⟩ : y.length ≤ sizeLine ∧ k = ((y.length : Int) != 0) := e
    subst e'
    exact PySem.P.truthy_str (by omega) ⟨H, I.tok _, q⟩
  | byt y =>
    obtain ⟨t, rfl⟩ := rx
    obtain ⟨hy, e'⟩ : y.size ≤ sizeLine ∧ k = ((y.size : Int) != 0) := e
    subst e'
    exact PySem.W.truthy_bytes (by omega) ⟨H, I.tok _, q⟩
  | ref p =>
    cases rx
    have e' : (∃ xs, SqL X.K H p xs ∧ k = !xs.isEmpty) ∨ (∃ xs, SqT X.K H p xs ∧ k = !xs.isEmpty) ∨ ∃ kvs, H p = some (.dK kvs) ∧ k = !kvs.isEmpty := e
    rcases e' with ⟨xs, hx, e'⟩ | ⟨xs, hx, e'⟩ | ⟨kvs, hx, e'⟩
    · subst e'
      obtain ⟨its, r, pl, hz⟩ := I.list hx
      have hlen := r.length
      exact wpAny_truthy_list pl.isList (by simp only [List.size_toArray]; omega) ⟨H, I.tok _, by rw [isEmpty_of r]; exact q⟩
    · subst e'
      obtain ⟨its, r, pl, hz⟩ := I.tuple hx
      have hlen := r.length
      exact truthy_tuple pl (by simp only [List.size_toArray]; omega) ⟨H, I.tok _, by rw [isEmpty_of r]; exact q⟩
    · subst e'
      obtain ⟨hz, hS, vs, r, m⟩ : kvs.length ≤ sizeLine ∧ (p == sysModules) = false ∧ ∃ vs, KV kvs vs ∧ s.heap.DictOf (mixKind X.prog X.w) p vs := I.hok p _ hx
      have hlen : kvs.length = vs.length := Paired.length r
      exact wpAny_truthy_dict hS m (by omega) ⟨H, I.tok _, by rw [isEmpty_kv r]; exact q⟩
  | _ => exact (show False from e).elim
theorem pt_truth (ha : PE X a ta) (he : ∀ whole, isTrue a X.env whole = (do let v ← whole; standAt a.pos; holding [v] (truthy v))) :
    PT X a (fun σ H Q => ta σ H fun x H' => ∃ k, TruV X.K x H' k ∧ Q k H') := by
  intro pins s σ H Q I h
  exact isTrue_plain (thn (ha pins s σ H _ I h) fun v s1 ⟨x, H1, I1, r1, q1⟩ => tru_ok pins s1 σ H1 x v Q I1 r1 q1) (he _)
theorem op_add_str : OpR X (binaryOp .Add) (fun x y H Q => ∃ i j, x = .str i ∧ y = .str j ∧ i.length + j.length ≤ sizeLine ∧ Q (.str (i ++ j)) H) := by
  intro pins s σ H x y v u Q I rx ry h
  obtain ⟨i, j, rfl, rfl, hz, q⟩ := h
  obtain ⟨t, rfl⟩ := rx
  obtain ⟨t', rfl⟩ := ry
  exact add_str (fun t' tk => ⟨.str (i ++ j), H, I.tok _, ⟨_, rfl⟩, q⟩) hz
theorem vals1 {x : V} {us : List Value} (r : Vals [x] us) : ∃ u, us = [u] ∧ RelV x u := by
  cases r with
  | cons r1 r2 => cases r2; exact ⟨_, rfl, r1⟩
theorem vals2 {x y : V} {us : List Value} (r : Vals [x, y] us) : ∃ u w', us = [u, w'] ∧ RelV x u ∧ RelV y w' := by
  cases r with
  | cons r1 r2 =>
    cases r2 with
    | cons r3 r4 => cases r4; exact ⟨_, _, rfl, r1, r3⟩
theorem call_ord : CallR X (.builtin "ord") (fun xs H Q => ∃ x, xs = [.str x] ∧ x.length = 1 ∧ Q (.int (x.cps.getD 0 0 : Nat)) H) := by
  intro pins s σ H xs us Q I r h
  obtain ⟨x, rfl, hz, q⟩ := h
  obtain ⟨u, rfl, t, rfl⟩ := vals1 r
  exact ord_of_one hz ⟨.int _, H, I.tok _, ⟨_, rfl⟩, q⟩
end
end L2
namespace L2
open PySem PySem.Spec PyProof.Rows
structure ObjM (h : Heap) (x dx C : Addr) (mA : Str → Option Value) : Prop where
  obj : h.get? x = some (PySem.W.instObj C dx)
  ns : h.Ns1 dx mA
  ne : dx ≠ x
theorem lookIn_ns {h : Heap} {dx : Addr} {mA : Str → Option Value} (n : h.Ns1 dx mA) : ∃ od, h.get? dx = some od ∧ ∀ name, PySem.W.lookIn name od = some (mA name) := by
  obtain ⟨o, es, ep, ho, hd, hk, _, hm⟩ := n
  refine ⟨o, ho, fun name => ?_⟩
  have e := hm name
  unfold nsFind findBy at e
  rw [← Array.find?_toList] at e
  unfold PySem.W.lookIn
  rw [hd]
  dsimp only
  split
  · rename_i y q
    rw [q] at e
    exact congrArg some e
  · rename_i q
    rw [q] at e
    have a : es.toList.any (·.refKey) = false := by
      rw [List.any_eq_false]
      intro y hy
      obtain ⟨z, t, hkey⟩ := hk y (Array.mem_toList_iff.mp hy)
      simp [DictEntry.refKey, hkey]
    have a' : ¬ es.toList.any (·.refKey) = true := by rw [a]; exact Bool.false_ne_true
    rw [if_neg a']
    exact congrArg some e
theorem ObjM.look {h : Heap} {x dx C : Addr} {mA : Str → Option Value} (I : ObjM h x dx C mA) : ∃ od, PySem.W.InstAt h x (PySem.W.instObj C dx) C (some od) ∧ ∀ name, PySem.W.lookIn name od = some (mA name) :=
  let ⟨od, ho, hl⟩ := lookIn_ns I.ns
  ⟨od, ⟨I.obj, rfl, rfl, ho⟩, hl⟩
section
variable {prog : Program} {w : World} {A : Around} {E : Value → Shared → Prop} {s : Shared} {K : PySem.W.Frag} {x dx C f : Addr} {mA : Str → Option Value} {name : Str} {v : Value}
end
section
variable {P : Program} {w : World} {H H' : Hp} {h h' : Heap} {a C dx : Addr} {fs fs' : List (Str × V)}
theorem ins_get (hok : HOk P w H h) (e : H a = some (.ins C dx fs)) : ∃ mA, ObjM h a dx C mA ∧ (∀ f, RelO (fs.lookup f) (mA f)) ∧ PySem.Within mA (fs.map (·.1)) ∧ fs.length ≤ 1000 ∧ H dx = some (.own a) := by
  obtain ⟨d, z, ne, ob, mA, n, r, q⟩ := (show ObjOk P w H h a (.ins C dx fs) from hok a _ e)
  exact ⟨mA, ⟨ob, n, ne⟩, r, q, z, d⟩
end
structure Cls (K : PySem.W.Frag) (C : Addr) : Prop where
  pg : PySem.W.plainGet K C Str.empty = true
  hd : PySem.W.hasDictIn K C = true
  po : PySem.W.plainOver K C = true
  sa : PySem.W.findIn K (.ref C) "__setattr__" = some (some (.builtin "object.__setattr__"))
theorem Cls.get {K : PySem.W.Frag} {C : Addr} (c : Cls K C) (f : Str) : PySem.W.plainGet K C f = true := c.pg
section
variable {X : Cx} {pins : List (Addr × Obj)} {σ : St} {H : Hp} {s : Shared} {a C dx : Addr} {fs : List (Str × V)} {f : Str} {v : V} {A : Around} {E : Value → Shared → Prop}
end
section
variable {X : Cx} {o e value : Expr} {f : Str} {pos pos' tpos : Pos} {ta tv : TE}
end
section
variable {X : Cx} {pins : List (Addr × Obj)} {σ : St} {H : Hp} {s : Shared} {A : Around} {E : Value → Shared → Prop} {Q : Value → Shared → Prop} {c : Value} {b : Bool}
inductive TyOf (K : PySem.W.Frag) (H : Hp) : V → Value → Prop where
  | non : TyOf K H .non (.type "NoneType")
  | bl (x : Bool) : TyOf K H (.bl x) (.type "bool")
  | int (i : Int) : TyOf K H (.int i) (.type "int")
  | str (x : Str) : TyOf K H (.str x) (.type "str")
  | flt (x : UInt64) : TyOf K H (.flt x) (.type "float")
  | lst {a : Addr} {xs : List V} (e : H a = some (.lst xs)) : TyOf K H (.ref a) (.type "list")
  | frz {a : Addr} {o : Obj} {xs : List V} (e : H a = some (.frz o (.lst xs))) : TyOf K H (.ref a) (.type "list")
  | tup {a : Addr} {xs : List V} (e : H a = some (.tup xs)) : TyOf K H (.ref a) (.type "tuple")
  | dK {a : Addr} {kvs : List (Key × V)} (e : H a = some (.dK kvs)) : TyOf K H (.ref a) (.type "dict")
  | dT {a : Addr} {kvs : List (List Key × V)} (e : H a = some (.dT kvs)) : TyOf K H (.ref a) (.type "dict")
  | ins {a C dx : Addr} {fs : List (Str × V)} (e : H a = some (.ins C dx fs)) (cl : Cls K C) (ha : PySem.W.findIn K (.ref C) "__class__" = some (some (.builtin "object.__class__")))
      (hn : PySem.W.specialIn K (.builtin "object.__class__") "__get__" = some (some (.builtin "getset_descriptor.__get__"))) (htk : PySem.W.takesIn K (.builtin "object.__class__") = some true)
      (hm : PySem.W.mroIn K C (.type "object") = some true) : TyOf K H (.ref a) (.ref C)
end
end L2
namespace L2
open PySem PySem.Spec PyProof.Rows
structure Room (k : Nat) (A : Around) : Prop where
  hd : A.handled = none
  dp : A.depth + 3 * k + 5 < recursionLimit
  un : A.units + 16 * k + 200 < cLine
theorem Room.mono {j k : Nat} {A : Around} (r : Room k A) (h : j ≤ k) : Room j A := ⟨r.hd, by have := r.dp; omega, by have := r.un; omega⟩
theorem Room.deeper {k : Nat} {A : Around} (r : Room (k + 1) A) (env : Env) : Room k (A.deeper env) :=
  ⟨r.hd, by have := r.dp; show A.depth + 1 + 3 * k + 5 < _; omega, by have := r.un; show A.units + 3 + 16 * k + 200 < _; omega⟩
theorem Room.depth {k : Nat} {A : Around} (r : Room k A) : A.depth < recursionLimit := by have := r.dp; omega
theorem Room.units {k : Nat} {A : Around} (r : Room k A) : A.units + 64 < cLine := by have := r.un; omega
def tNil : TA := fun _ H Q => Q [] H
def tCons (ta : TE) (tr : TA) : TA := fun σ H Q => ta σ H fun x H1 => tr σ H1 fun xs H2 => Q (x :: xs) H2
section
variable {X : Cx} {e : Expr} {es : List Expr} {te : TE} {t : TA} {pos : Pos}
theorem pa_nil : PA X [] tNil := fun _ _ _ _ H Q I h => Calls.spliced_nil ⟨[], H, I, .nil, h⟩
theorem pa_cons (ha : PE X e te) (hr : PA X es t) (hs : starEach (e :: es) X.env = (false, eval e X.env) :: starEach es X.env := by rfl) : PA X (e :: es) (tCons te t) := by
  intro pos pins s σ H Q I h
  rw [hs]
  show wpAny _ _ (spliced ((false, eval e X.env) :: backTo pos (starEach es X.env))) _ _ s
  refine Calls.spliced_cons (thn (ha pins s σ H _ I h) fun u s1 ⟨x, H1, I1, r1, q1⟩ => ?_)
  exact thn (hr pos pins s1 σ H1 _ I1 q1) fun us s2 ⟨xs, H2, I2, r2, q2⟩ => ⟨x :: xs, H2, I2, .cons r1 r2, q2⟩
def tTup (t : TA) : TE := fun σ H Q => t σ H fun xs H1 => xs.length ≤ sizeLine ∧ ∀ p, H1 p = none → Q (.ref p) (upd H1 p (.tup xs))
def tLst (t : TA) : TE := fun σ H Q => t σ H fun xs H1 => xs.length ≤ sizeLine ∧ ∀ p, H1 p = none → Q (.ref p) (upd H1 p (.lst xs))
theorem pe_tup {x1} (h : PA X es t) : PE X (.Tuple es x1 pos) (tTup t) := by
  intro pins s σ H Q I hq
  refine wpAny_Tuple_spliced (thn (h pos pins s σ H _ I hq) fun us s1 ⟨xs, H1, I1, r, z, q⟩ => ⟨by rw [← r.length]; exact z, ?_⟩)
  have hf : H1 s1.heap.objs.size = none := I1.hok.fresh (Nat.le_refl _)
  refine ⟨.ref s1.heap.objs.size, upd H1 s1.heap.objs.size (.tup xs), I1.laid (t' := s1.toks) (fun b u e => Heap.get?_push_of_some _ e) (Nat.le_refl _) ?_, rfl, q _ hf⟩
  exact ⟨z, us, r, ⟨_, Heap.get?_push_size _ rfl, rfl, _, rfl⟩⟩
theorem pe_lst (h : PA X es t) : PE X (.List es pos) (tLst t) := by
  intro pins s σ H Q I hq
  refine wpAny_List_spliced (thn (h pos pins s σ H _ I hq) fun us s1 ⟨xs, H1, I1, r, z, q⟩ => ⟨by rw [← r.length]; exact z, ?_⟩)
  have hf : H1 s1.heap.objs.size = none := I1.hok.fresh (Nat.le_refl _)
  refine ⟨.ref s1.heap.objs.size, upd H1 s1.heap.objs.size (.lst xs), I1.laid (t' := s1.toks) (fun b u e => Heap.get?_push_of_some _ e) (Nat.le_refl _) ?_, rfl, q _ hf⟩
  exact ⟨z, us, 0, r, Heap.get?_push_size _ rfl⟩
end
abbrev Sp := List V → Hp → VK → XK → Prop
abbrev CXT := List Env → Hp → Shared → XK → Value → Shared → Prop
structure Env0 (P : Program) (w : World) (K : PySem.W.Frag) (mg : Str → Option Value) (base : Heap) (A : Around) (outer : List Env) (s : Shared) (H : Hp) : Prop where
  frames : A.frames = some outer
  mod : Mod K mg base
  bs : ∀ b o, base.get? b = some o → s.heap.get? b = some o ∧ H b = none
  bsz : base.objs.size ≤ s.heap.objs.size
  funs : s.heap.FunFrames base outer
  frf : ∀ b ∈ frs outer, H b = none
  hok : HOk P w H s.heap
  bare : AllBare s.gens
def CE (outer : List Env) (P : Program) (w : World) (H : Hp) (s : Shared) (Q : VK) (u : Value) (s' : Shared) : Prop :=
  ∃ v H', s'.os = s.os ∧ AllBare s'.gens ∧ Un (frs outer) [] H H' s.heap s'.heap ∧ HOk P w H' s'.heap ∧ RelV v u ∧ Q v H'
def CR (CX : CXT) (outer : List Env) (P : Program) (w : World) (H : Hp) (s : Shared) (Q : VK) (E : XK) (r : Result) (s' : Shared) : Prop :=
  match r with
  | .ok (.ret u) => CE outer P w H s Q u s'
  | .ok _ => False
  | .error e => CX outer H s E e s'
structure FnOk (P : Program) (w : World) (K : PySem.W.Frag) (mg : Str → Option Value) (base : Heap) (CX : CXT) (k : Nat) (f : Addr) (fd : FuncData) (ps : List Str) (sp : Sp) : Prop where
  len : ∀ vs H Q E, sp vs H Q E → vs.length = ps.length
  run : ∀ (A : Around) (outer : List Env) (s : Shared) (H : Hp) (args : Args) (us : List Value) (vs : List V) (Q : VK) (E : XK), Room k A → Env0 P w K mg base A outer s H → BindsTo s fd args (ps.zip us) → Vals vs us → sp vs H Q E →
    codeAny (model P w) A (.call (.ref f) args) (CR CX outer P w H s Q E) s
section
variable {X : Cx} {pins : List (Addr × Obj)} {σ : St} {H : Hp} {s s' : Shared}
theorem Inv.env0 (I : Inv X pins σ H s) : Env0 X.prog X.w X.K X.mg X.base X.A X.stack s H :=
  ⟨I.ok.frames, I.ok.mod, I.bs, Nat.le_trans I.ok.bsz I.sz, I.stack, I.stkFree, I.hok, I.bare⟩
theorem Inv.after {Q : VK} {u : Value} (I : Inv X pins σ H s) (h : CE X.stack X.prog X.w H s Q u s') : EP X pins σ Q u s' := by
  obtain ⟨v, H', os, bare, un, hok, r, q⟩ := h
  obtain ⟨hh, g, d, t, os'⟩ := s'
  obtain rfl : os' = s.os := os
  exact ⟨v, H', I.call (h' := hh) (g' := g) (d' := d) (t' := t) (ch := []) un hok bare (fun b z => absurd z (by simp)), r, q⟩
end
def tCall (sp : Sp) (dvs : List V) (E : XK) (t : TA) : TE := fun σ H Q => t σ H fun vs H1 => sp (vs ++ dvs) H1 Q E
def Binds (K : PySem.W.Frag) (fd : FuncData) (ps : List Str) (ds : List Value) : Prop :=
  ∀ (s : Shared) (us : List Value), K.In s.heap → (us ++ ds).length = ps.length → BindsTo s fd ⟨us, []⟩ (ps.zip (us ++ ds))
theorem Binds.all {K : PySem.W.Frag} {fd : FuncData} {ps : List Str} (h : ∀ us : List Value, us.length = ps.length → bindArgs fd ⟨us, []⟩ = pure (ps.zip us)) : Binds K fd ps [] := fun s us _ hl => by
  rw [List.append_nil] at hl ⊢
  exact .of_eq (h us hl)
def Passes (CX : CXT) (X : Cx) (E : XK) : Prop := ∀ (pins : List (Addr × Obj)) (σ : St) (H : Hp) (s : Shared) (e : Value) (s' : Shared), Inv X pins σ H s → CX X.stack H s E e s' → X.xe e s'
section
variable {X : Cx} {CX : CXT} {k : Nat} {f C : Addr} {fd : FuncData} {ps : List Str} {sp : Sp} {dvs : List V} {ds : List Value} {E : XK} {x m : Str} {p pos apos : Pos} {e o : Expr} {es : List Expr} {ta : TE} {t : TA}
theorem run_fn {pins : List (Addr × Obj)} {σ : St} {H : Hp} {s : Shared} {Q : VK} {us : List Value} {vs : List V} (F : FnOk X.prog X.w X.K X.mg X.base CX k f fd ps sp) (hr : Room k X.A) (hb : Binds X.K fd ps ds) (hd : Vals dvs ds) (hx : Passes CX X E)
    (I : Inv X pins σ H s) (r : Vals vs us) (h : sp (vs ++ dvs) H Q E) : wpAny (model X.prog X.w) X.A (call (.ref f) us) (EP X pins σ Q) X.xe s := by
  have r2 : Vals (vs ++ dvs) (us ++ ds) := r.append hd
  have hl : (us ++ ds).length = ps.length := by rw [← r2.length]; exact F.len _ _ _ _ h
  refine wpAny_call (codeAny_mono (F.run X.A X.stack s H ⟨us, []⟩ (us ++ ds) (vs ++ dvs) Q E hr I.env0 (hb s us I.kIn hl) r2 h) fun r s' hq => ?_)
  cases r with
  | error e => exact hx pins σ H s e s' I hq
  | ok fl =>
    cases fl with
    | ret u => exact I.after hq
    | next => exact False.elim hq
    | brk => exact False.elim hq
    | cont => exact False.elim hq
theorem pe_call (F : FnOk X.prog X.w X.K X.mg X.base CX k f fd ps sp) (hr : Room k X.A) (hg : Gl X x) (hm : X.mg x = some (.ref f)) (hk : PySem.W.keepIn X.K (.ref f) = true) (hb : Binds X.K fd ps ds) (hd : Vals dvs ds) (hx : Passes CX X E)
    (ha : PA X (e :: es) t) (hdb : (x == ("__debug__" : Str)) = false := by decide) (he : starEach (e :: es) X.env = (false, eval e X.env) :: starEach es X.env := by rfl) (hpl : (backTo pos (starEach es X.env)).any (·.1) = false := by rfl) :
    PE X (.Call (.Name x p) (e :: es) [] pos) (tCall sp dvs E t) := by
  intro pins s σ H Q I h
  refine wpAny_Call_Name_kw (ld_glob I hg hm ?_ hdb)
  refine PySem.W.callWith_K (h₀ := X.base) I.ok.mod.kin hk (thn (ha pos pins s σ H _ I h) fun us s1 ⟨vs, H1, I1, r, q⟩ => ⟨I1.kIn, ?_⟩) he hpl
  exact run_fn F hr hb hd hx I1 r q
end
section
variable {X : Cx} {CX : CXT} {k : Nat} {f C : Addr} {fd : FuncData} {ps ks : List Str} {sp : Sp} {E : XK} {x m : Str} {p pos apos kpos : Pos} {e o : Expr} {es : List Expr} {kws : List Keyword} {te ta : TE} {t tk : TA} {nm : Option Str}
variable {g : List Value → List Value → List Value} {gV : List V → List V → List V}
end
structure FnScope (N P : List Str) (sc : Scope) : Prop where
  kind : sc.kind = .function
  co : sc.isCoroutine = false
  gen : sc.isGenerator = false
  nd : N.Nodup
  pre : N.take P.length = P
  par : ∀ x ∈ P, sc.names.lookup x = some .local ∨ sc.names.lookup x = some .cell
  nofree : ∀ y ∈ sc.names, y.2 ≠ .free
theorem bindL_out {kindOf : Str → Option NameKind} {x : Str} : ∀ {binds : List (Str × Value)} {m : Str → Option Value}, (∀ v, (x, v) ∉ binds) → bindL kindOf binds m x = m x
  | [], _, _ => rfl
  | (n, v) :: r, m, h => by
    unfold bindL
    rw [bindL_out fun w hw => h w (List.mem_cons_of_mem _ hw)]
    split
    · have : x ≠ n := by rintro rfl; exact h v List.mem_cons_self
      simp [this]
    · rfl
theorem bindC_out {kindOf : Str → Option NameKind} {x : Str} : ∀ {binds : List (Str × Value)} {m : Str → Option Value}, (∀ v, (x, v) ∉ binds) → bindC kindOf binds m x = m x
  | [], _, _ => rfl
  | (n, v) :: r, m, h => by
    unfold bindC
    rw [bindC_out fun w hw => h w (List.mem_cons_of_mem _ hw)]
    split
    · rfl
    · have : x ≠ n := by rintro rfl; exact h v List.mem_cons_self
      simp [this]
theorem bindL_get {kindOf : Str → Option NameKind} {x : Str} {v : Value} : ∀ {P : List Str} {vs : List Value} {i : Nat} {m : Str → Option Value}, P.Nodup → P[i]? = some x → vs[i]? = some v → kindOf x = some .local →
    bindL kindOf (P.zip vs) m x = some v
  | [], _, _, _, _, h, _, _ => by simp at h
  | _ :: _, [], _, _, _, _, h, _ => by simp at h
  | p :: P, w :: vs, 0, m, nd, h1, h2, hk => by
    simp at h1 h2; subst h1; subst h2
    show bindL kindOf ((p, w) :: P.zip vs) m p = _
    unfold bindL
    rw [bindL_out fun v hv => (List.nodup_cons.mp nd).1 (List.of_mem_zip hv).1, if_pos hk]
    simp
  | p :: P, w :: vs, i + 1, m, nd, h1, h2, hk => by
    show bindL kindOf ((p, w) :: P.zip vs) m x = _
    unfold bindL
    exact bindL_get (i := i) (List.nodup_cons.mp nd).2 (by simpa using h1) (by simpa using h2) hk
theorem bindC_get {kindOf : Str → Option NameKind} {x : Str} {v : Value} : ∀ {P : List Str} {vs : List Value} {i : Nat} {m : Str → Option Value}, P.Nodup → P[i]? = some x → vs[i]? = some v → kindOf x ≠ some .local →
    bindC kindOf (P.zip vs) m x = some v
  | [], _, _, _, _, h, _, _ => by simp at h
  | _ :: _, [], _, _, _, _, h, _ => by simp at h
  | p :: P, w :: vs, 0, m, nd, h1, h2, hk => by
    simp at h1 h2; subst h1; subst h2
    show bindC kindOf ((p, w) :: P.zip vs) m p = _
    unfold bindC
    rw [bindC_out fun v hv => (List.nodup_cons.mp nd).1 (List.of_mem_zip hv).1, if_neg hk]
    simp
  | p :: P, w :: vs, i + 1, m, nd, h1, h2, hk => by
    show bindC kindOf ((p, w) :: P.zip vs) m x = _
    unfold bindC
    exact bindC_get (i := i) (List.nodup_cons.mp nd).2 (by simpa using h1) (by simpa using h2) hk
def start (N : List Str) (vs : List V) : St := vs.map some ++ List.replicate (N.length - vs.length) none
def cxOf (CX : CXT) (P : Program) (w : World) (K : PySem.W.Frag) (mg : Str → Option Value) (base : Heap) (N : List Str) (qual : Str) (scope : Scope) (f : Addr) (cd : Value) (A : Around) (outer : List Env) (s : Shared) (H : Hp) (E : XK) : Cx where
  prog := P
  w := w
  K := K
  mg := mg
  base := base
  A := A.deeper (envOfC qual scope s.heap.objs.size f cd)
  N := N
  s₀ := s
  H₀ := H
  env := envOfC qual scope s.heap.objs.size f cd
  outer := outer
  stack := envOfC qual scope s.heap.objs.size f cd :: outer
  ex := []
  calm := true
  fn := fun _ => true
  pn := []
  xe := fun e s' => wpAny (model P w) (A.deeper (envOfC qual scope s.heap.objs.size f cd)) (leaving (envOfC qual scope s.heap.objs.size f cd) e) (fun _ s'' => CX outer H s E e s'') (fun e' s'' => CX outer H s E e' s'') s'
theorem cell_has {sc : Scope} {n : Nat} {x : Str} (h : sc.names.lookup x = some .cell) : ∃ c, (cellsFrom n sc.names []).lookup x = some c := by
  have q := PySem.W.cellsFrom_some sc.names n [] (.inl h)
  exact Option.isSome_iff_exists.mp q
theorem inv_start {CX : CXT} {P : Program} {w : World} {K : PySem.W.Frag} {mg : Str → Option Value} {base : Heap} {N ps : List Str} {qual : Str} {scope : Scope} {f : Addr} {cd : Value} {A : Around} {outer : List Env} {s s1 : Shared} {H : Hp} {E : XK} {us : List Value} {vs : List V}
    (S : FnScope N ps scope) (hd : A.handled = none) (e0 : Env0 P w K mg base A outer s H) (hl : vs.length = ps.length) (r : Vals vs us)
    (x : InCallC s s.heap.objs.size (bindL (envOfC qual scope s.heap.objs.size f cd).kindOf (ps.zip us) fun _ => none) (cellsFrom (s.heap.objs.size + 1) scope.names []) (bindC (envOfC qual scope s.heap.objs.size f cd).kindOf (ps.zip us) fun _ => none) s1) :
    Inv (cxOf CX P w K mg base N qual scope f cd A outer s H E) [] (start N vs) H s1 := by
  have hpl : ps.length ≤ N.length := by have := congrArg List.length S.pre; rw [List.length_take] at this; omega
  obtain ⟨h1, tk, rfl, hk⟩ := x.done
  have noA : ∀ b : Addr, b ∉ (cxOf CX P w K mg base N qual scope f cd A outer s H E).ex := fun b z => absurd (show b ∈ ([] : List Addr) from z) (by simp)
  refine ⟨⟨e0.mod, S.kind, rfl, rfl, Nat.le_refl _, fun y z c h1 h2 => ?_, fun y hy => ?_, fun y c _ h => ?_, fun _ => hd, Around.frames_deeper e0.frames, .inr ⟨rfl, rfl⟩, fun b z => absurd z (noA b), e0.bs, e0.bsz, fun b _ _ => noA b, fun b z => absurd z (noA b), e0.funs, e0.frf⟩,
    rfl, e0.bare, Un.kept hk, ⟨_, x.toInCall.ns, fun i y v h1 h2 h3 => ?_⟩, fun y c h => ⟨_, x.cell y c h⟩, e0.hok.fresh (Nat.le_refl _), fun y c h => ?_, fun p hp => absurd (show p ∈ ([] : List (Addr × Obj)) from hp) (by simp), e0.hok.kept hk, ?_⟩
  · exact name_of_addr x.apart (PySem.mem_of_lookup h1) (PySem.mem_of_lookup h2)
  · have hy : scope.names.lookup y = some .cell ∨ scope.names.lookup y = some .free := hy
    rcases hy with hy | hy
    · exact cell_has hy
    · exact absurd rfl (S.nofree _ (PySem.mem_of_lookup hy))
  · exact Nat.le_of_lt (x.above y c (PySem.mem_of_lookup h))
  · have hi : i < vs.length := by
      unfold start at h2
      by_cases hi : i < vs.length
      · exact hi
      · rw [List.getElem?_append_right (by simpa using hi)] at h2
        rw [List.getElem?_replicate] at h2
        split at h2 <;> cases h2
    have ha : vs[i]? = some v := by
      unfold start at h2
      rw [List.getElem?_append_left (by simpa using hi), List.getElem?_map] at h2
      cases e : vs[i]? with
      | none => rw [e] at h2; cases h2
      | some a => rw [e] at h2; cases h2; rfl
    obtain ⟨u, hu, rv⟩ := r.get ha
    have hp : ps[i]? = some y := by
      rw [← S.pre, List.getElem?_take_of_lt (by omega)]; exact h1
    have ndP : ps.Nodup := by rw [← S.pre]; exact S.nd.sublist (List.take_sublist _ _)
    refine ⟨u, rv, ?_⟩
    rcases S.par y (List.mem_of_getElem? hp) with k | k
    · exact .inl ⟨k, bindL_get ndP hp hu k⟩
    · obtain ⟨c, e⟩ := cell_has (n := s.heap.objs.size + 1) k
      refine .inr ⟨.inl k, c, e, ?_⟩
      have q := x.cell y c e
      rw [bindC_get ndP hp hu (by show scope.names.lookup y ≠ _; rw [k]; decide)] at q
      exact q
  · exact e0.hok.fresh (Nat.le_of_lt (x.above y c (PySem.mem_of_lookup h)))
  · unfold start
    show _ = N.length
    rw [List.length_append, List.length_map, List.length_replicate]
    omega
theorem fn_of {CX : CXT} {P : Program} {w : World} {K : PySem.W.Frag} {mg : Str → Option Value} {base : Heap} {k : Nat} {f : Addr} {name qual : Str} {params : Arguments} {body : List Stmt} {scope : Scope} {dV kV doc pm cdv ct oc : Value} {an od : Option Addr}
    {osl : Array (Option Value)} {N ps : List Str} {sp : Sp} (lk : K.lookup f = some ⟨oc, od, .func (PySem.W.fnOf name qual params body scope dV kV doc pm an cdv ct), osl⟩) (hcd : PySem.W.codeIn K cdv qual = true) (S : FnScope N ps scope)
    (len : ∀ vs H Q E, sp vs H Q E → vs.length = ps.length)
    (hbody : ∀ (A : Around) (outer : List Env) (s : Shared) (H : Hp) (vs : List V) (Q : VK) (E : XK), Room k (A.deeper (envOfC qual scope s.heap.objs.size f cdv)) → sp vs H Q E →
      ∃ t, PSs (cxOf CX P w K mg base N qual scope f cdv A outer s H E) body t ∧ t { nx := fun _ H' => Q .non H', rt := Q } (start N vs) H) :
    FnOk P w K mg base CX (k + 1) f (PySem.W.fnOf name qual params body scope dV kV doc pm an cdv ct) ps sp := by
  refine ⟨len, fun A outer s H args us vs Q E hr e0 hb r hsp => ?_⟩
  have hl := len _ _ _ _ hsp
  have KX : K.In s.heap := e0.mod.kin.keeps fun b o e => (e0.bs b o e).1
  have lim : s.heap.NoLimit := e0.mod.nolimit.keeps fun b o e => (e0.bs b o e).1
  have hkind : ∀ y ∈ ps.zip us, scope.names.lookup y.1 = some .local ∨ (scope.names.lookup y.1 = some .cell ∧ ((cellsFrom (s.heap.objs.size + 1) scope.names []).lookup y.1).isSome = true) := fun ⟨n, v⟩ hy => by
    rcases S.par n (List.of_mem_zip hy).1 with q | q
    · exact .inl q
    · exact .inr ⟨q, PySem.W.cellsFrom_some _ _ _ (.inl q)⟩
  refine codeAny_call_function hr.depth (KX _ _ lk) rfl S.co S.gen rfl (PySem.W.codeRec_of KX hcd) (hb _ _ _ _ ?_)
  refine wpAny_newFunctionEnv_cells S.kind hkind fun env he s1 x => ?_
  subst he
  refine ⟨lim.keeps x.toInCall.keep, codeAny_func ?_⟩
  obtain ⟨t, ht, hq⟩ := hbody A outer s H vs Q E (hr.deeper _) hsp
  have I : Inv (cxOf CX P w K mg base N qual scope f cdv A outer s H E) [] (start N vs) H s1 := inv_start S hr.hd e0 hl r x
  refine wpAny_mono (ht [] s1 (start N vs) H _ I hq) (fun fl s' hs => ?_) fun e s' hs => hs
  have fin : ∀ {σ' : St} {H' : Hp} {v : V} {u : Value}, Inv (cxOf CX P w K mg base N qual scope f cdv A outer s H E) [] σ' H' s' → RelV v u → Q v H' → CE outer P w H s Q u s' :=
    fun {σ' H' v u} J rv q => ⟨v, H', J.os, J.bare, J.base, J.hok, rv, q⟩
  cases fl with
  | ret u =>
    obtain ⟨v, σ', H', J, rv, q⟩ := hs
    exact fin J rv q
  | next =>
    obtain ⟨σ', H', J, q⟩ := hs
    exact fin (v := V.non) (u := Value.none) J rfl q
  | brk =>
    obtain ⟨_, _, _, q⟩ := hs
    exact False.elim q
  | cont =>
    obtain ⟨_, _, _, q⟩ := hs
    exact False.elim q
end L2
namespace L2
open PySem PySem.Spec PyProof.Rows
section
variable {X : Cx} {x : Str} {p pos : Pos} {e : Expr} {es : List Expr} {t : TA} {id T : String} {r : List V → Hp → VK → Prop}
def tCB (r : List V → Hp → VK → Prop) (t : TA) : TE := fun σ H Q => t σ H fun vs H1 => r vs H1 Q
theorem pe_callB (hc : CallR X (.builtin id) r) (hg : Gl X x) (hm : X.mg x = none) (hv : bootBuiltins x = some (.builtin id)) (ha : PA X (e :: es) t) (hn : x ≠ "__name__" := by decide) (hdb : (x == ("__debug__" : Str)) = false := by decide)
    (he : starEach (e :: es) X.env = (false, eval e X.env) :: starEach es X.env := by rfl) (hpl : (backTo pos (starEach es X.env)).any (·.1) = false := by rfl) : PE X (.Call (.Name x p) (e :: es) [] pos) (tCB r t) := by
  intro pins s σ H Q I h
  refine wpAny_Call_Name_kw (ld_blt I hg hm hv ?_ hn hdb)
  exact PyProof.Rows.callWith_builtin1 (thn (ha pos pins s σ H _ I h) fun us s1 ⟨vs, H1, I1, r1, q1⟩ => hc pins s1 σ H1 vs us Q I1 r1 q1) he hpl
theorem pe_callTy (hc : CallR X (.type T) r) (hg : Gl X x) (hm : X.mg x = none) (hv : bootBuiltins x = some (.type T)) (ha : PA X (e :: es) t) (hn : x ≠ "__name__" := by decide) (hdb : (x == ("__debug__" : Str)) = false := by decide)
    (he : starEach (e :: es) X.env = (false, eval e X.env) :: starEach es X.env := by rfl) (hpl : (backTo pos (starEach es X.env)).any (·.1) = false := by rfl) : PE X (.Call (.Name x p) (e :: es) [] pos) (tCB r t) := by
  intro pins s σ H Q I h
  refine wpAny_Call_Name_kw (ld_blt I hg hm hv ?_ hn hdb)
  exact PyProof.Rows.callWith_type1 (thn (ha pos pins s σ H _ I h) fun us s1 ⟨vs, H1, I1, r1, q1⟩ => hc pins s1 σ H1 vs us Q I1 r1 q1) he hpl
end
end L2
namespace HT
open PySem PyProof.Rows
section
open PySem.SeqAt
open PySem.AutoSeq1 (wpAny_loadPart')
open PySem.MeetsSeq PySem.MeetsSeq2 PySem.MeetsSeq3
end
section
variable {prog : Program} {w : World} {A : Around} {E : Value → Shared → Prop} {s : Shared}
def sIx (n d : Nat) : Option Int → Nat
  | none => d
  | some v => if v < 0 then (v + (n : Int)).toNat else min v.toNat n
theorem sIx_none (n d : Nat) : sIx n d none = d := rfl
theorem sIx_nat (n d k : Nat) : sIx n d (some (k : Int)) = min k n := by
  show (if (k : Int) < 0 then ((k : Int) + (n : Int)).toNat else min (k : Int).toNat n) = min k n
  rw [if_neg (by omega), Int.toNat_natCast]
end
end HT
namespace L2
open PySem PySem.Spec PyProof.Rows
abbrev TO := St → Hp → (Option Int → Hp → Prop) → Prop
def PO (X : Cx) (e : Option Expr) (t : TO) : Prop :=
  ∀ (pins : List (Addr × Obj)) (s : Shared) (σ : St) (H : Hp) (Q : Option Int → Hp → Prop), Inv X pins σ H s → t σ H Q →
    wpAny (model X.prog X.w) X.A (evalPart e X.env) (fun u s' => ∃ o H', Inv X pins σ H' s' ∧ IsPart u o ∧ Q o H') X.xe s
def tNoPart : TO := fun _ H Q => Q none H
def tPart (t : TE) : TO := fun σ H Q => t σ H fun x H1 => ∃ i, x = .int i ∧ Q (some i) H1
section
variable {X : Cx} {e : Expr} {te : TE} {lo hi : Option Expr} {tl th : TO} {pos p2 : Pos}
theorem po_none : PO X none tNoPart := by
  intro pins s σ H Q I h
  rw [evalPart_none]
  exact wpAny_pure ⟨none, H, I, .none, h⟩
theorem po_some (h : PE X e te) : PO X (some e) (tPart te) := by
  intro pins s σ H Q I hw
  rw [evalPart_some]
  refine thn (h pins s σ H _ I hw) fun u s1 ⟨x, H1, I1, r1, q1⟩ => ?_
  obtain ⟨i, rfl, q⟩ := q1
  obtain ⟨t, rfl⟩ := r1
  exact ⟨some i, H1, I1, .int i t, q⟩
def SlR (X : Cx) (r : V → Option Int → Option Int → Hp → VK → Prop) : Prop :=
  ∀ (pins : List (Addr × Obj)) (s : Shared) (σ : St) (H : Hp) (x : V) (v vl vu : Value) (lo hi : Option Int) (sl : Addr) (Q : VK), Inv X pins σ H s → RelV x v → s.heap.IsSliceOf sl vl vu .none → IsPart vl lo → IsPart vu hi → r x lo hi H Q →
    ∃ T id, typeLookup (.type T) "__getitem__" = pure (some (.builtin id)) ∧ s.TypeIs v T ∧ wpAny (model X.prog X.w) X.A (getItem v (.ref sl)) (EP X pins σ Q) X.xe s
def tSl (r : V → Option Int → Option Int → Hp → VK → Prop) (te : TE) (tl th : TO) : TE := fun σ H Q => te σ H fun x H1 => tl σ H1 fun l H2 => th σ H2 fun u H3 => r x l u H3 Q
theorem pe_slice {r : V → Option Int → Option Int → Hp → VK → Prop} (hr : SlR X r) (he : PE X e te) (hl : PO X lo tl) (hu : PO X hi th) : PE X (.Subscript e (.Slice lo hi none p2) pos) (tSl r te tl th) := by
  intro pins s σ H Q I h
  refine Subscript_ (thn (he pins s σ H _ I h) fun v s1 ⟨x, H1, I1, r1, q1⟩ => ?_)
  refine wpAny_Slice (thn (hl pins s1 σ H1 _ I1 q1) fun vl s2 ⟨l, H2, I2, pl, q2⟩ => thn (hu pins s2 σ H2 _ I2 q2) fun vu s3 ⟨u, H3, I3, pu, q3⟩ => ?_)
  rw [evalPart_none]
  refine wpAny_pure ?_
  have I4 : Inv X pins σ H3 { s3 with heap := s3.heap.push { cls := .type "slice", data := .fields #[vl, vu, .none] } } := I3.kept (t' := s3.toks) fun b ob q => Heap.get?_push_of_some _ q
  obtain ⟨T, id, hT, ht, hg⟩ := hr pins { s3 with heap := s3.heap.push { cls := .type "slice", data := .fields #[vl, vu, .none] } } σ H3 x v vl vu l u s3.heap.objs.size Q I4 r1 (Heap.IsSliceOf.new ..) pl pu q3
  show wpAny (model X.prog X.w) X.A (subscriptTail e (.Slice lo hi none p2) v (.ref s3.heap.objs.size)) (EP X pins σ Q) X.xe { s3 with heap := s3.heap.push { cls := .type "slice", data := .fields #[vl, vu, .none] } }
  exact tail_any (ops := [.ref s3.heap.objs.size, v]) ht hT hg (by with_unfolding_all rfl)
def cutV (xs : List V) (lo hi : Option Int) : List V := (xs.drop (HT.sIx xs.length 0 lo)).take (HT.sIx xs.length xs.length hi - HT.sIx xs.length 0 lo)
theorem cutV_length (xs : List V) (lo hi : Option Int) : (cutV xs lo hi).length ≤ xs.length := by
  unfold cutV
  rw [List.length_take, List.length_drop]
  omega
end
end L2
namespace L2
open PySem PySem.Spec PyProof.Rows
def ixN (n : Nat) (i : Int) : Option Nat := if 0 ≤ i then (if i < n then some i.toNat else none) else if -(n : Int) ≤ i then some (i + n).toNat else none
def atI {α : Type} (xs : List α) (i : Int) : Option α := (ixN xs.length i).bind fun j => xs[j]?
theorem ixN_seq {n : Nat} {i : Int} {j : Nat} (h : ixN n i = some j) : seqIndex? i n = some j ∧ j < n ∧ -(n : Int) ≤ i ∧ i < n := by
  unfold ixN at h
  by_cases h0 : 0 ≤ i
  · rw [if_pos h0] at h
    by_cases h1 : i < n
    · rw [if_pos h1] at h
      have e : i.toNat = j := Option.some.inj h
      exact ⟨by rw [seqIndex_of h0 h1, e], by omega, by omega, h1⟩
    · rw [if_neg h1] at h; cases h
  · rw [if_neg h0] at h
    by_cases h1 : -(n : Int) ≤ i
    · rw [if_pos h1] at h
      have e : (i + n).toNat = j := Option.some.inj h
      exact ⟨by rw [seqIndex_neg (by omega) h1, e], by omega, h1, by omega⟩
    · rw [if_neg h1] at h; cases h
theorem atI_get {α : Type} {xs : List α} {i : Int} {v : α} (h : atI xs i = some v) : ∃ j, seqIndex? i xs.length = some j ∧ xs[j]? = some v ∧ j < xs.length ∧ -(xs.length : Int) ≤ i ∧ i < xs.length := by
  unfold atI at h
  cases e : ixN xs.length i with
  | none => rw [e] at h; cases h
  | some j =>
    rw [e] at h
    obtain ⟨h1, h2, h3, h4⟩ := ixN_seq e
    exact ⟨j, h1, h, h2, h3, h4⟩
theorem atI_nat {α : Type} {xs : List α} {j : Nat} {v : α} (h : xs[j]? = some v) : atI xs (j : Int) = some v := by
  have hj : j < xs.length := (List.getElem?_eq_some_iff.mp h).1
  have e : ixN xs.length (j : Int) = some j := by
    unfold ixN
    rw [if_pos (by omega), if_pos (by omega)]; simp
  unfold atI; rw [e]; exact h
theorem atI_last {α : Type} (xs : List α) (v : α) : atI (xs ++ [v]) (-1) = some v := by
  have hl : (xs ++ [v]).length = xs.length + 1 := by simp
  have e : ixN (xs ++ [v]).length (-1) = some xs.length := by
    unfold ixN
    rw [hl, if_neg (by decide), if_pos (by omega)]
    congr 1
    omega
  unfold atI
  rw [e]
  show (xs ++ [v])[xs.length]? = some v
  simp
def PlainIx (b : Expr) : Prop := ∀ o i, subscripted b false o i = operate [o, i] (getItem o i)
def IxR (X : Cx) (r : R2) : Prop :=
  ∀ (value slice : Expr) (pins : List (Addr × Obj)) (s : Shared) (σ : St) (H : Hp) (x y : V) (v u : Value) (Q : VK), Inv X pins σ H s → RelV x v → RelV y u → r x y H Q →
    subscripted slice false v u = operate [v, u] (getItem v u) → wpAny (model X.prog X.w) X.A (subscriptTail value slice v u) (EP X pins σ Q) X.xe s
def MtR (X : Cx) (id : String) (r : V → List V → Hp → VK → Prop) : Prop :=
  ∀ (pins : List (Addr × Obj)) (s : Shared) (σ : St) (H : Hp) (x : V) (xs : List V) (v : Value) (us : List Value) (Q : VK), Inv X pins σ H s → RelV x v → Vals xs us → r x xs H Q →
    wpAny (model X.prog X.w) X.A (call (.builtin id) (v :: us)) (EP X pins σ Q) X.xe s
section
variable {X : Cx} {a b : Expr} {ta tb : TE} {pos : Pos}
theorem pe_ix {r : R2} (hr : IxR X r) (ha : PE X a ta) (hb : PE X b tb) (hs : PlainIx b) : PE X (.Subscript a b pos) (tOp r ta tb) := by
  intro pins s σ H Q I h
  exact Subscript_ (binT ha hb I h fun v u s2 x y H2 I2 rx ry q => hr a b pins s2 σ H2 x y v u Q I2 rx ry q (hs _ _))
def rIxL (K : PySem.W.Frag) : R2 := fun x y H Q => ∃ p xs i v, x = .ref p ∧ y = .int i ∧ SqL K H p xs ∧ atI xs i = some v ∧ Q v H
def rIxT (K : PySem.W.Frag) : R2 := fun x y H Q => ∃ p xs i v, x = .ref p ∧ y = .int i ∧ SqT K H p xs ∧ atI xs i = some v ∧ Q v H
def rIxS : R2 := fun x y H Q => ∃ z i c, x = .str z ∧ y = .int i ∧ z.length ≤ sizeLine ∧ atI z.cps.toList i = some c ∧ Q (.str ⟨#[c]⟩) H
theorem ix_list : IxR X (rIxL X.K) := by
  intro value slice pins s σ H x y v u Q I rx ry h hs
  obtain ⟨p, xs, i, z, rfl, rfl, hq, he, q⟩ := h
  cases rx
  obtain ⟨t, rfl⟩ := ry
  obtain ⟨its, r, pl, hz⟩ := I.list hq
  obtain ⟨j, h1, h2, h3, h4, h5⟩ := atI_get he
  obtain ⟨w, ew, rw'⟩ := r.get h2
  have hl := r.length
  have hn := line63
  have fin : EP X pins σ Q w s := ⟨z, H, I, rw', q⟩
  by_cases h0 : 0 ≤ i
  · have hj : i.toNat = j := by
      rw [seqIndex_of h0 h5] at h1
      exact Option.some.inj h1
    exact item_listR pl.isList h0 (by omega) (by rw [hj]; simpa using ew) fin hs
  · have hj : (i + (its.toArray.size : Int)).toNat = j := by
      rw [seqIndex_neg (by omega) h4] at h1
      rw [List.size_toArray, ← hl]
      exact Option.some.inj h1
    exact subscriptTail_builtinR (x := w) pl.isList.typeIs slot_list_getitem.lookup
      (wpAny_getItem_list_neg (Q := fun r s' => r = w ∧ EP X pins σ Q r s') pl.isList (by omega) (by rw [List.size_toArray] <;> omega) (by omega) (by rw [hj]; simpa using ew) ⟨rfl, fin⟩) hs
theorem ix_tup : IxR X (rIxT X.K) := by
  intro value slice pins s σ H x y v u Q I rx ry h hs
  obtain ⟨p, xs, i, z, rfl, rfl, hq, he, q⟩ := h
  cases rx
  obtain ⟨t, rfl⟩ := ry
  obtain ⟨its, r, pl, hz⟩ := I.tuple hq
  obtain ⟨j, h1, h2, h3, h4, h5⟩ := atI_get he
  obtain ⟨w, ew, rw'⟩ := r.get h2
  have hl := r.length
  have hn := line63
  have fin : EP X pins σ Q w s := ⟨z, H, I, rw', q⟩
  exact subscriptTail_builtinR (x := w) pl.typeIs slot_tuple_getitem.lookup
    (getItem_tuple (j := j) (Q := fun r s' => r = w ∧ EP X pins σ Q r s') pl (by omega) (by omega) (by rw [List.size_toArray, ← hl]; exact h1) (by simpa using ew) ⟨rfl, fin⟩) hs
theorem ix_str : IxR X rIxS := by
  intro value slice pins s σ H x y v u Q I rx ry h hs
  obtain ⟨z, i, c, rfl, rfl, hz, he, q⟩ := h
  obtain ⟨t, rfl⟩ := rx
  obtain ⟨t', rfl⟩ := ry
  obtain ⟨j, h1, h2, h3, h4, h5⟩ := atI_get he
  have hl : z.cps.toList.length = z.length := by simp [Str.length]
  rw [hl] at h1 h4 h5
  have hn := line63
  exact tail_any (typeIs_str s z t) slot_str_getitem.lookup (getItem_str (c := c) (by
    have e1 : decide (i < -(2 ^ 63 : Int)) = false := decide_eq_false (by omega)
    have e2 : decide (i ≥ 2 ^ 63) = false := decide_eq_false (by omega)
    rw [e1, e2, Bool.or_false]) (by rw [h1]; simpa using h2) ⟨.str ⟨#[c]⟩, H, I.tok _, ⟨_, rfl⟩, q⟩) hs
theorem mapSeq_set (its : List Value) (n j : Nat) (u : Value) : Obj.mapSeq (·.setIfInBounds j u) { cls := .type "list", data := .seq its.toArray n } = { cls := .type "list", data := .seq (its.set j u).toArray n } := by
  simp [Obj.mapSeq]
theorem Inv.lst {pins : List (Addr × Obj)} {σ : St} {H : Hp} {s : Shared} {p : Addr} {xs : List V} (I : Inv X pins σ H s) (h : H p = some (.lst xs)) :
    ∃ (its : List Value) (n : Nat), Vals xs its ∧ s.heap.get? p = some { cls := .type "list", data := .seq its.toArray n } ∧ xs.length ≤ sizeLine := by
  obtain ⟨z, its, n, r, e⟩ := I.hok p _ h
  exact ⟨its, n, r, e, z⟩
theorem Inv.lstUpd {pins : List (Addr × Obj)} {σ : St} {H : Hp} {s : Shared} {p : Addr} {xs ys : List V} {its its' : List Value} {n n' : Nat} {f : Obj → Obj} (I : Inv X pins σ H s) (h : H p = some (.lst xs))
    (ho : s.heap.get? p = some { cls := .type "list", data := .seq its.toArray n }) (hf : f { cls := .type "list", data := .seq its.toArray n } = { cls := .type "list", data := .seq its'.toArray n' }) (r : Vals ys its') (hz : ys.length ≤ sizeLine) (t : Nat) :
    Inv X pins σ (upd H p (.lst ys)) { s with heap := s.heap.update p f, toks := t } := by
  have e : (s.heap.update p f).get? p = some { cls := .type "list", data := .seq its'.toArray n' } := by
    rw [Heap.get?_update_self f ho (by rw [hf] <;> rfl), hf]
  refine I.write (x := p) (e := p) (by rw [h]; trivial) (.inl rfl) (fun b u hb q => (Heap.get?_update_other _ _ (Ne.symm hb)).trans q) ⟨_, e⟩ ?_
  exact ⟨hz, its', n', r, e⟩
def rSetL : V → V → V → Hp → (Hp → Prop) → Prop := fun o i v H Q => ∃ p xs k j, o = .ref p ∧ i = .int k ∧ H p = some (.lst xs) ∧ ixN xs.length k = some j ∧ Q (upd H p (.lst (xs.set j v)))
theorem set_list : PSet X rSetL := by
  intro pins s σ H o i v ov iv u Q I ro ri rv h
  obtain ⟨p, xs, k, j, rfl, rfl, hp, hj, q⟩ := h
  cases ro
  obtain ⟨t, rfl⟩ := ri
  obtain ⟨its, n, r, ho, hz⟩ := I.lst hp
  obtain ⟨h1, h2, h3, h4⟩ := ixN_seq hj
  have hl := r.length
  have hn := line63
  have I' : Inv X pins σ (upd H p (.lst (xs.set j v))) { s with heap := s.heap.update p (Obj.mapSeq (·.setIfInBounds j u)) } :=
    I.lstUpd hp ho (mapSeq_set its n j u) (r.set rv j) (by rw [List.length_set]; exact hz) s.toks
  by_cases h0 : 0 ≤ k
  · have hk : k.toNat = j := by
      rw [seqIndex_of h0 h4] at h1
      exact Option.some.inj h1
    exact PySem.W.ki_setAt ho h0 (by omega) (by rw [List.size_toArray, ← hl]; exact h4) (by rw [hk]; exact ⟨_, I', q⟩)
  · have hk : (k + (its.toArray.size : Int)).toNat = j := by
      rw [seqIndex_neg (by omega) h3] at h1
      rw [List.size_toArray, ← hl]
      exact Option.some.inj h1
    exact PySem.W.ki_setBack ho (by omega) (by rw [List.size_toArray, ← hl]; exact h3) (by omega) (by rw [hk]; exact ⟨_, I', q⟩)
theorem slice_bounds (lo hi : Option Int) (n : Nat) : (sliceBounds lo hi none n).1 = ((HT.sIx n 0 lo : Nat) : Int) ∧ (sliceBounds lo hi none n).2.1 = ((HT.sIx n n hi : Nat) : Int) ∧ (sliceBounds lo hi none n).2.2 = 1 := by
  refine ⟨?_, ?_, rfl⟩
  · cases lo with
    | none => simp [sliceBounds, HT.sIx]
    | some i =>
      simp only [sliceBounds, HT.sIx, Option.getD_none, show (1 : Int) > 0 by decide, if_true]
      by_cases h : i < 0
      · simp only [h, if_true] <;> omega
      · simp only [h, if_false] <;> omega
  · cases hi with
    | none => simp [sliceBounds, HT.sIx]
    | some i =>
      simp only [sliceBounds, HT.sIx, Option.getD_none, show (1 : Int) > 0 by decide, if_true]
      by_cases h : i < 0
      · simp only [h, if_true] <;> omega
      · simp only [h, if_false] <;> omega
theorem slicePick_cut (its : List Value) (lo hi : Option Int) : slicePick its.toArray lo hi none = ((its.drop (HT.sIx its.length 0 lo)).take (HT.sIx its.length its.length hi - HT.sIx its.length 0 lo)).toArray := by
  obtain ⟨h1, h2, h3⟩ := slice_bounds lo hi its.toArray.size
  unfold slicePick
  rw [h1, h2, h3]
  simp only [sliceRange_one, pick_run, List.size_toArray] <;> rfl
def rSlL (K : PySem.W.Frag) : V → Option Int → Option Int → Hp → VK → Prop := fun x lo hi H Q => ∃ a xs, x = .ref a ∧ SqL K H a xs ∧ ∀ p, H p = none → Q (.ref p) (upd H p (.lst (cutV xs lo hi)))
theorem sl_list : SlR X (rSlL X.K) := by
  intro pins s σ H x v vl vu lo hi sl Q I rx hs pl pu h
  obtain ⟨a, xs, rfl, hx, q⟩ := h
  cases rx
  obtain ⟨its, r, ht, hz⟩ := I.list hx
  have hlen := r.length
  refine ⟨"list", _, slot_list_getitem.lookup, ht.isList.typeIs, ?_⟩
  refine wpAny_getItem_list_slice ht.isList hs pl pu .none (by simp) ?_ (by rw [List.size_toArray] <;> omega)
  rw [slicePick_cut, ← hlen]
  refine ⟨.ref s.heap.objs.size, _, I.laid (t' := s.toks) (o := .lst (cutV xs lo hi)) (fun b ob q => Heap.get?_push_of_some _ q) (Nat.le_refl _) ?_, rfl, q _ (I.hok.fresh (Nat.le_refl _))⟩
  exact ⟨Nat.le_trans (cutV_length xs lo hi) hz, _, 0, (r.drop (HT.sIx xs.length 0 lo)).take (HT.sIx xs.length xs.length hi - HT.sIx xs.length 0 lo), Heap.get?_push_size _ rfl⟩
def flatV : V → Bool
  | .non => true
  | .bl _ => true
  | .int _ => true
  | .str _ => true
  | _ => false
def eqV : V → V → Bool
  | .non, .non => true
  | .bl a, .bl b => a == b
  | .bl a, .int b => (if a then 1 else 0) == b
  | .int a, .bl b => a == (if b then 1 else 0)
  | .int a, .int b => a == b
  | .str a, .str b => a == b
  | _, _ => false
theorem eqAt_V {A : Around} {s : Shared} {y x : V} {u v : Value} (ry : RelV y u) (rx : RelV x v) (fy : flatV y = true) (fx : flatV x = true) : SeqAt.EqAt A s u v (eqV y x) := by
  cases y with
  | non =>
    cases ry
    cases x with
    | non => cases rx; exact SeqAt.EqAt.same _
    | bl b => cases rx; exact SeqAt.EqAt.none_bool b
    | int b => obtain ⟨t, rfl⟩ := rx; exact SeqAt.EqAt.none_int b t
    | str b => obtain ⟨t, rfl⟩ := rx; exact SeqAt.EqAt.none_str b t
    | _ => exact absurd (show false = true from fx) Bool.false_ne_true
  | bl a =>
    cases ry
    cases x with
    | non => cases rx; exact SeqAt.EqAt.bool_none a
    | bl b => cases rx; exact SeqAt.EqAt.bool_bool a b
    | int b => obtain ⟨t, rfl⟩ := rx; exact SeqAt.EqAt.bool_int a b t
    | str b => obtain ⟨t, rfl⟩ := rx; exact SeqAt.EqAt.bool_str a b t
    | _ => exact absurd (show false = true from fx) Bool.false_ne_true
  | int a =>
    obtain ⟨t', rfl⟩ := ry
    cases x with
    | non => cases rx; exact SeqAt.EqAt.int_none a t'
    | bl b => cases rx; exact SeqAt.EqAt.int_bool a t' b
    | int b => obtain ⟨t, rfl⟩ := rx; exact SeqAt.EqAt.int_int a t' b t
    | str b => obtain ⟨t, rfl⟩ := rx; exact SeqAt.EqAt.int_str a t' b t
    | _ => exact absurd (show false = true from fx) Bool.false_ne_true
  | str a =>
    obtain ⟨t', rfl⟩ := ry
    cases x with
    | non => cases rx; exact SeqAt.EqAt.str_none a t'
    | bl b => cases rx; exact SeqAt.EqAt.str_bool a t' b
    | int b => obtain ⟨t, rfl⟩ := rx; exact SeqAt.EqAt.str_int a t' b t
    | str b => obtain ⟨t, rfl⟩ := rx; exact SeqAt.EqAt.str_str a t' b t
    | _ => exact absurd (show false = true from fx) Bool.false_ne_true
  | _ => exact absurd (show false = true from fy) Bool.false_ne_true
theorem call_len_seq : CallR X (.builtin "len") (fun xs H Q => ∃ p ys, xs = [.ref p] ∧ (SqL X.K H p ys ∨ SqT X.K H p ys) ∧ Q (.int ys.length) H) := by
  intro pins s σ H xs us Q I r h
  obtain ⟨p, ys, rfl, hq, q⟩ := h
  obtain ⟨u, rfl, rx⟩ := vals1 r
  cases rx
  have hn := line63
  rcases hq with hq | hq
  · obtain ⟨its, r', pl, hz⟩ := I.list hq
    have hlen := r'.length
    exact Calls.call_len_list pl.isList (by simp only [List.size_toArray] <;> omega) ⟨.int ys.length, H, I.tok _, ⟨s.toks + 1, by rw [List.size_toArray, hlen]⟩, q⟩
  · obtain ⟨its, r', pl, hz⟩ := I.tuple hq
    have hlen := r'.length
    exact len_tuple pl (by simp only [List.size_toArray] <;> omega) ⟨.int ys.length, H, I.tok _, ⟨s.toks + 1, by rw [List.size_toArray, hlen]⟩, q⟩
theorem call_len_str : CallR X (.builtin "len") (fun xs H Q => ∃ z, xs = [.str z] ∧ z.length ≤ sizeLine ∧ Q (.int z.length) H) := by
  intro pins s σ H xs us Q I r h
  obtain ⟨z, rfl, hz, q⟩ := h
  obtain ⟨u, rfl, t, rfl⟩ := vals1 r
  have hn := line63
  exact len_str (by omega) ⟨.int z.length, H, I.tok _, ⟨_, rfl⟩, q⟩
theorem call_list_of : CallR X (.type "list") (fun xs H Q => ∃ p ys, xs = [.ref p] ∧ (SqL X.K H p ys ∨ SqT X.K H p ys) ∧ ∀ l, H l = none → Q (.ref l) (upd H l (.lst ys))) := by
  intro pins s σ H xs us Q I r h
  obtain ⟨p, ys, rfl, hq, q⟩ := h
  obtain ⟨u, rfl, rx⟩ := vals1 r
  cases rx
  have fin : ∀ (its : List Value), Vals ys its → ys.length ≤ sizeLine → ∀ (h' : Heap) (c' : Nat), (∀ b o', s.heap.get? b = some o' → h'.get? b = some o') →
      h'.get? s.heap.objs.size = some { cls := .type "list", dict := none, data := .seq its.toArray c', slots := #[] } → EP X pins σ Q (.ref s.heap.objs.size) { s with heap := h' } := fun its r' hz h' c' kp e =>
    ⟨.ref s.heap.objs.size, _, I.laid (t' := s.toks) kp (Nat.le_refl _) (show ObjOk X.prog X.w _ h' _ (.lst ys) from ⟨hz, its, c', r', e⟩), rfl, q _ (I.hok.fresh (Nat.le_refl _))⟩
  rcases hq with hq | hq
  · obtain ⟨its, r', pl, hz⟩ := I.list hq
    have hlen := r'.length
    obtain ⟨o, ho, hc, n, hd⟩ := pl.isList
    exact call_list_seq p (.inl rfl) ho hc hd (fun h' c' kp e => fin its r' hz h' c' kp e) (by simp only [List.size_toArray] <;> omega)
  · obtain ⟨its, r', pl, hz⟩ := I.tuple hq
    have hlen := r'.length
    obtain ⟨o, ho, hc, n, hd⟩ := pl
    exact call_list_seq p (.inr rfl) ho hc hd (fun h' c' kp e => fin its r' hz h' c' kp e) (by simp only [List.size_toArray] <;> omega)
theorem call_tuple_of : CallR X (.type "tuple") (fun xs H Q => ∃ p ys, xs = [.ref p] ∧ ((SqL X.K H p ys ∧ ∀ l, H l = none → Q (.ref l) (upd H l (.tup ys))) ∨ (SqT X.K H p ys ∧ Q (.ref p) H))) := by
  intro pins s σ H xs us Q I r h
  obtain ⟨p, ys, rfl, h⟩ := h
  obtain ⟨u, rfl, rx⟩ := vals1 r
  cases rx
  rcases h with ⟨hq, q⟩ | ⟨hq, q⟩
  · obtain ⟨its, r', pl, hz⟩ := I.list hq
    have hlen := r'.length
    refine call_tuple_list pl.isList (fun h' kp => ?_) (by simp only [List.size_toArray] <;> omega)
    have I1 : Inv X pins σ H { s with heap := h' } := I.kept (t' := s.toks) kp
    have I2 : Inv X pins σ (upd H h'.objs.size (.tup ys)) { s with heap := h'.push { cls := .type "tuple", data := .seq its.toArray } } :=
      I1.laid (t' := s.toks) (fun b o e => Heap.get?_push_of_some _ e) (Nat.le_refl _) (show ObjOk X.prog X.w _ _ _ (.tup ys) from ⟨hz, its, r', IsTup.new _ _⟩)
    exact ⟨.ref h'.objs.size, _, I2, rfl, q _ (I1.hok.fresh (Nat.le_refl _))⟩
  · obtain ⟨its, r', pl, hz⟩ := I.tuple hq
    exact call_tuple_same pl ⟨.ref p, H, I, rfl, q⟩
def tyV (K : PySem.W.Frag) (T : String) (x : V) (H : Hp) : Prop := match x with
  | .str _ => T = "str"
  | .int _ => T = "int"
  | .ref p => (T = "list" ∧ ∃ xs, SqL K H p xs) ∨ (T = "tuple" ∧ ∃ o, K.lookup p = some o ∧ o.cls = .type "tuple" ∧ o.dict = none) ∨
      (T = "dict" ∧ ((∃ kvs, H p = some (.dK kvs)) ∨ ∃ kvs, H p = some (.dT kvs))) ∨ (T = "set" ∧ ∃ S n, H p = some (.set S n))
  | _ => False
theorem tyV_is {pins : List (Addr × Obj)} {σ : St} {H : Hp} {s : Shared} {T : String} {x : V} {v : Value} (I : Inv X pins σ H s) (r : RelV x v) (ty : tyV X.K T x H) :
    s.TypeIs v T ∧ ∀ a, v = .ref a → ∃ ob, s.heap.get? a = some ob ∧ ob.dict = none := by
  cases x with
  | str z =>
    obtain ⟨t, rfl⟩ := r
    cases (show T = "str" from ty)
    exact ⟨typeIs_str s z t, fun _ e => nomatch e⟩
  | int i =>
    obtain ⟨t, rfl⟩ := r
    cases (show T = "int" from ty)
    exact ⟨typeIs_int s i t, fun _ e => nomatch e⟩
  | ref p =>
    cases r
    rcases ty with ⟨rfl, xs, hq⟩ | ⟨rfl, o, hk, hc, hd⟩ | ⟨rfl, hk⟩ | ⟨rfl, S, n, hk⟩
    · obtain ⟨its, _, pl, _⟩ := I.list hq
      refine ⟨pl.isList.typeIs, fun a e => ?_⟩
      cases e
      obtain ⟨o, n, e, c, hd, _⟩ := pl
      exact ⟨o, e, hd⟩
    · refine ⟨⟨o, I.kIn p o hk, hc⟩, fun a e => ?_⟩
      cases e
      exact ⟨o, I.kIn _ o hk, hd⟩
    · have z : ∃ o, s.heap.get? p = some o ∧ o.ExactDict := by
        rcases hk with ⟨kvs, hk⟩ | ⟨kvs, hk⟩
        · obtain ⟨_, _, _, _, o, _, _, e, ex, _⟩ := I.hok p _ hk
          exact ⟨o, e, ex⟩
        · obtain ⟨_, _, _, _, o, _, _, e, ex, _⟩ := I.hok p _ hk
          exact ⟨o, e, ex⟩
      obtain ⟨o, e, ex⟩ := z
      refine ⟨⟨o, e, ex.1⟩, fun a e2 => ?_⟩
      cases e2
      exact ⟨o, e, ex.2.1⟩
    · obtain ⟨o, _, _, _, e, ex, _⟩ := I.hok p _ hk
      refine ⟨⟨o, e, ex.1⟩, fun a e2 => ?_⟩
      cases e2
      exact ⟨o, e, ex.2.1⟩
  | _ => exact False.elim ty
def tBM (K : PySem.W.Frag) (T : String) (r : V → List V → Hp → VK → Prop) (to : TE) (t : TA) : TE := fun σ H Q => to σ H fun x H1 => tyV K T x H1 ∧ t σ H1 fun xs H2 => r x xs H2 Q
variable {o e : Expr} {es : List Expr} {to : TE} {t : TA} {name : Str} {apos cpos : Pos} {T id : String} {r : V → List V → Hp → VK → Prop}
theorem pe_bm (pa : PlainAttrs T) (slot : Slot T name id) (hty : typeOf (.builtin id) = pure (.type "method_descriptor")) (hm : MtR X id r) (ho : PE X o to) (ha : PA X (e :: es) t)
    (hbase : attributeBase o name X.env (eval o X.env) = eval o X.env := by rfl)
    (hfew : ((backTo cpos (starEach (e :: es) X.env)).all (fun x => !x.1) && (backToKw cpos (keywordEach [] X.env)).all (fun x => x.1.isSome)
      && decide ((e :: es).length + ([] : List Keyword).length + (if ([] : List Keyword).isEmpty then 0 else 1) < 30)) = true := by rfl)
    (hline : (apos.endLine == cpos.line) = true := by rfl) (hs : starEach (e :: es) X.env = (false, eval e X.env) :: starEach es X.env := by rfl) (hplain : (backTo cpos (starEach es X.env)).any (·.1) = false := by rfl) :
    PE X (.Call (.Attribute o name apos) (e :: es) [] cpos) (tBM X.K T r to t) := by
  intro pins s σ H Q I h
  refine wpAny_Call_method_late hbase hfew hline rfl (thn (ho pins s σ H _ I h) fun v s1 ⟨x, H1, I1, r1, ty, q1⟩ => ?_)
  obtain ⟨h1, h2⟩ := tyV_is I1 r1 ty
  refine ⟨T, id, pa, slot, hty, h1, h2, ?_⟩
  have hA := ha cpos pins s1 σ H1 _ I1 q1
  rw [hs] at hA ⊢
  refine Calls.callWith_builtin (by show (false || (backTo cpos (starEach es X.env)).any (·.1)) = false; rw [hplain] <;> rfl) (Calls.evalArgs_plain ?_)
  exact thn hA fun us s2 ⟨vs, H2, I2, r2, q2⟩ => hm pins s2 σ H2 x vs v us Q I2 r1 r2 q2
end
end L2
namespace L2
open PySem PySem.Spec PyProof.Rows
def MtM (X : Cx) (id : String) (r : V → List V → Hp → VK → Prop) : Prop :=
  ∀ (pins : List (Addr × Obj)) (s : Shared) (σ : St) (H : Hp) (x : V) (xs : List V) (v : Value) (us : List Value) (Q : VK), Inv X pins σ H s → RelV x v → Vals xs us → r x xs H Q →
    wpAny (model X.prog X.w) X.A (call (.builtin id) (v :: us)) (EP X pins σ Q) X.xe s
theorem Vals.one : ∀ {x : V} {us : List Value}, Vals [x] us → ∃ u, us = [u] ∧ RelV x u
  | _, _, .cons r .nil => ⟨_, rfl, r⟩
theorem Vals.rep {xs : List V} {us : List Value} (h : Vals xs us) : ∀ k : Nat, Vals (List.replicate k xs).flatten (List.replicate k us).flatten
  | 0 => .nil
  | k + 1 => by
    rw [List.replicate_succ, List.replicate_succ, List.flatten_cons, List.flatten_cons]
    exact Vals.append h (Vals.rep h k)
theorem foldl_rep (its : List Value) : ∀ (k : Nat) (acc : List Value),
    List.foldl (fun x1 x2 => x1 ++ x2) acc.toArray (List.replicate k its.toArray) = (acc ++ (List.replicate k its).flatten).toArray
  | 0, acc => by simp
  | k + 1, acc => by
    have e : acc.toArray ++ its.toArray = (acc ++ its).toArray := by simp
    have e2 : (acc ++ its) ++ (List.replicate k its).flatten = acc ++ (List.replicate (k + 1) its).flatten := by
      rw [List.replicate_succ, List.flatten_cons, List.append_assoc]
    rw [← e2, ← foldl_rep its k (acc ++ its), ← e, List.replicate_succ, List.foldl_cons]
section
variable {X : Cx} {pins : List (Addr × Obj)} {σ : St} {H : Hp} {s : Shared} {l b : Addr} {xs ys zs : List V}
theorem Inv.lset {its its' : List Value} {n : Nat} {f : Array Value → Array Value} {t' : Nat} (I : Inv X pins σ H s) (hH : H l = some (.lst xs))
    (e : s.heap.get? l = some { cls := .type "list", data := .seq its.toArray n }) (hf : f its.toArray = its'.toArray) (hv : Vals ys its') (hz : ys.length ≤ sizeLine) :
    Inv X pins σ (upd H l (.lst ys)) { s with heap := s.heap.update l (Obj.mapSeq f), toks := t' } := by
  have q := PySem.IsL.update e f
  rw [hf] at q
  refine I.write (x := l) (e := l) (by rw [hH]; exact trivial) (.inl rfl) (fun b' u hb hu => (Heap.get?_update_other s.heap (Obj.mapSeq f) (Ne.symm hb)).trans hu) ⟨_, q⟩ ?_
  exact ⟨hz, its', _, hv, q⟩
theorem Inv.lnew {its : List Value} {t' : Nat} (I : Inv X pins σ H s) (hv : Vals ys its) (hz : ys.length ≤ sizeLine) :
    Inv X pins σ (upd H s.heap.objs.size (.lst ys)) { s with heap := s.heap.push { cls := .type "list", data := .seq its.toArray }, toks := t' } :=
  I.laid (fun _ _ q => Heap.get?_push_of_some _ q) (Nat.le_refl _) ⟨hz, its, 0, hv, Heap.get?_push_size _ rfl⟩
theorem Inv.fresh (I : Inv X pins σ H s) : H s.heap.objs.size = none := I.hok.fresh (Nat.le_refl _)
theorem Inv.lstM (I : Inv X pins σ H s) (hH : H l = some (.lst xs)) : xs.length ≤ sizeLine ∧ ∃ (its : List Value) (n : Nat), Vals xs its ∧ xs.length = its.length ∧ s.heap.get? l = some { cls := .type "list", data := .seq its.toArray n } := by
  obtain ⟨z, its, n, r, e⟩ := I.hok l _ hH
  exact ⟨z, its, n, r, r.length, e⟩
theorem notLongL {n : Nat} (h : n ≤ sizeLine) : Builtin.List.listTooLong n = false := by
  unfold Builtin.List.listTooLong
  exact decide_eq_false (by omega)
end
section
variable {X : Cx}
def rAppend : V → List V → Hp → VK → Prop := fun x vs H Q => ∃ l xs y, x = .ref l ∧ vs = [y] ∧ H l = some (.lst xs) ∧ xs.length < sizeLine ∧ Q .non (upd H l (.lst (xs ++ [y])))
theorem mt_append : MtM X "list.append" rAppend := by
  intro pins s σ H x vs v us Q I rx rv h
  obtain ⟨l, xs, y, rfl, rfl, hH, hz, q⟩ := h
  cases rx
  obtain ⟨u, rfl, ru⟩ := rv.one
  obtain ⟨z, its, n, r, hl, e⟩ := I.lstM hH
  refine call_meets F.slot_list_append ⟨_, e, rfl⟩ F.entry_list_append (F.args_list_append_2 _ _) (PySem.list_append l its.toArray n u (by rw [List.size_toArray]; omega)) ⟨e, ?_⟩
  refine ⟨.non, _, I.lset (its' := its ++ [u]) hH e (by simp) (r.append (.cons ru .nil)) ?_, rfl, q⟩
  rw [List.length_append, List.length_singleton]
  omega
def rExtend : V → List V → Hp → VK → Prop := fun x vs H Q => ∃ l b xs zs, x = .ref l ∧ vs = [.ref b] ∧ H l = some (.lst xs) ∧ H b = some (.lst zs) ∧ xs.length + zs.length ≤ sizeLine ∧ Q .non (upd H l (.lst (xs ++ zs)))
theorem mt_extend : MtM X "list.extend" rExtend := by
  intro pins s σ H x vs v us Q I rx rv h
  obtain ⟨l, b, xs, zs, rfl, rfl, hH, hB, hz, q⟩ := h
  cases rx
  obtain ⟨u, rfl, ru⟩ := rv.one
  cases ru
  obtain ⟨z, its, n, r, hl, e⟩ := I.lstM hH
  obtain ⟨z2, its2, n2, r2, hl2, e2⟩ := I.lstM hB
  have hsz : its.toArray.size + its2.toArray.size ≤ sizeLine := by rw [List.size_toArray, List.size_toArray]; omega
  have hlong : ¬ (!its.toArray.isEmpty && Builtin.List.listTooLong (its.toArray.size + its2.toArray.size)) = true := by
    rw [notLongL hsz, Bool.and_false]
    exact Bool.false_ne_true
  refine call_meets F.slot_list_extend ⟨_, e, rfl⟩ F.entry_list_extend (F.args_list_extend_2 _ _)
    (AutoSeq1.list_extend_list_list_0 l its.toArray n b its2.toArray n2 hlong (by rw [List.size_toArray]; omega) (by omega)) ⟨e, e2, ?_⟩
  refine ⟨.non, _, I.lset (its' := its ++ its2) hH e (by simp) (r.append r2) ?_, rfl, q⟩
  rw [List.length_append]
  omega
def rCat : R2 := fun x y H Q => ∃ l b xs zs, x = .ref l ∧ y = .ref b ∧ H l = some (.lst xs) ∧ H b = some (.lst zs) ∧ xs.length + zs.length ≤ sizeLine ∧ ∀ p, H p = none → Q (.ref p) (upd H p (.lst (xs ++ zs)))
theorem op_cat : OpR X (binaryOp .Add) rCat := by
  intro pins s σ H x y v u Q I rx ry h
  obtain ⟨l, b, xs, zs, rfl, rfl, hH, hB, hz, q⟩ := h
  cases rx
  cases ry
  obtain ⟨z, its, n, r, hl, e⟩ := I.lstM hH
  obtain ⟨z2, its2, n2, r2, hl2, e2⟩ := I.lstM hB
  refine PySem.P.add_list e e2 ?_ (by rw [List.size_toArray, List.size_toArray]; omega)
  have ea : its.toArray ++ its2.toArray = (its ++ its2).toArray := by simp
  rw [ea]
  exact ⟨.ref _, _, I.lnew (t' := s.toks) (r.append r2) (by rw [List.length_append]; omega), rfl, q _ I.fresh⟩
def rRep : R2 := fun x y H Q => ∃ l k xs, x = .ref l ∧ y = .int k ∧ H l = some (.lst xs) ∧ -(2 ^ 63) ≤ k ∧ k < 2 ^ 63 ∧ xs.length * k.toNat ≤ sizeLine ∧
  ∀ p, H p = none → Q (.ref p) (upd H p (.lst (List.replicate k.toNat xs).flatten))
theorem len_rep {α : Type} (xs : List α) (k : Nat) : (List.replicate k xs).flatten.length = k * xs.length := by
  induction k with
  | zero => simp
  | succ k ih => rw [List.replicate_succ, List.flatten_cons, List.length_append, ih, Nat.succ_mul, Nat.add_comm]
theorem op_rep : OpR X (binaryOp .Mult) rRep := by
  intro pins s σ H x y v u Q I rx ry h
  obtain ⟨l, k, xs, rfl, rfl, hH, h1, h2, hz, q⟩ := h
  cases rx
  obtain ⟨t, rfl⟩ := ry
  obtain ⟨z, its, n, r, hl, e⟩ := I.lstM hH
  have hlen : its.toArray.size * k.toNat ≤ sizeLine := by rw [List.size_toArray, ← hl]; exact hz
  have hcap : ¬ its.toArray.size * k.toNat > (2 ^ 63 - 1) / 8 := by
    have : (sizeLine : Nat) ≤ (2 ^ 63 - 1) / 8 := by decide
    omega
  have hfit : ¬ (!Builtin.List.listFitsIndex k) = true := by
    rw [fitsIndex_both h1 h2]
    exact Bool.false_ne_true
  have hlong : ¬ Builtin.List.listTooLong (its.toArray.size * k.toNat) = true := by
    rw [notLongL hlen]
    exact Bool.false_ne_true
  have hnew : List.foldl (fun x1 x2 => x1 ++ x2) #[] (List.replicate (if its.toArray.isEmpty = true then 0 else k.toNat) its.toArray) = (List.replicate k.toNat its).flatten.toArray := by
    have f0 : ∀ m : Nat, List.foldl (fun x1 x2 => x1 ++ x2) #[] (List.replicate m its.toArray) = (List.replicate m its).flatten.toArray := fun m => by
      have := foldl_rep its m []
      rw [List.nil_append] at this
      exact this
    rw [f0]
    cases its with
    | nil => simp
    | cons a r' => rw [if_neg (by simp)]
  refine wpAny_binaryOp_repeat_ref (T := "list") (U := "int") (by decide) ⟨_, e, rfl⟩ (fun s' => typeIs_int s' k t) noFill_list_mul F.fills_int_mul F.slot_int_rmul repeat_list F.slot_int_index.lookup
    (call_meets F.slot_int_rmul (typeIs_int s k t) F.entry_int_rmul (F.args_int_rmul_2 _ _) (int___rmul___int_list k t l its.toArray n)
      ⟨e, rfl, ⟨_, e, rfl⟩, call_meets F.slot_list_mul ⟨_, e, rfl⟩ F.entry_list_mul (F.args_list_mul_2 _ _) (AutoListH.list___mul___list_int_3 l its.toArray n k t hfit hcap hlong) ⟨e, ?_⟩⟩)
  rw [hnew]
  exact ⟨.ref _, _, I.lnew (t' := s.toks) (r.rep k.toNat) (by rw [len_rep, Nat.mul_comm]; exact hz), rfl, q _ I.fresh⟩
end
section
variable {prog : Program} {w : World} {A : Around} {E : Value → Shared → Prop} {s : Shared}
end
section
variable {X : Cx}
end
end L2
namespace Att
open PySem PySem.W PySem.Calls PyProof.Rows
theorem ints_of_wellAll {P : Params} {h : Heap} : ∀ (ns : List Int) (vs : List Value), WellAll P h vs (ns.map WData.int) → IntsAre vs ns := by
  intro ns
  induction ns with
  | nil =>
    intro vs w
    rw [List.map_nil] at w
    cases w
    exact .nil
  | cons n ns ih =>
    intro vs w
    rw [List.map_cons] at w
    cases w with
    | cons a b =>
      cases a
      exact .cons _ _ (ih _ b)
theorem script_of {l : OpenLaw} {n : Nat} (hn : l.most = some n) {P : Params} {h : Heap} {args : List WData} {vals : List Value}
    (hpre : l.row.toRowW.claim.pre args = true) (hwl : WellAll P h vals args) :
    ∃ a vs ns, vals = [Value.ref a] ∧ args = [WData.list (ns.map WData.int)] ∧ h.get? a = some { cls := .type "list", data := .seq vs.toArray } ∧ IntsAre vs ns ∧ ns.length ≤ n := by
  have hsh : WShape.hasAll [] args [.list .int] = true := (pre_splitW hpre).1
  have hc : l.pre.holds [] { args := args } = true := (pre_splitW hpre).2
  obtain ⟨d, r, rfl, h1, h2⟩ := hasAllW_cons hsh
  obtain rfl := hasAllW_nil h2
  obtain ⟨xs, rfl, h3⟩ := hasW_list h1
  obtain ⟨ns, rfl⟩ := items_int h3
  have hlen : ns.length ≤ n := by
    unfold OpenLaw.pre at hc
    have h4 : (WTm.not (.lt (.lit (.int (n : Int))) (.len (.arg 0)))).holds [] { args := [.list (ns.map .int)] } = true := by
      have h4 := (holds_andW hc).1
      rw [hn] at h4
      exact h4
    have h5 := condW_of h4 (w_not (w_lt w_lit (w_len_list (w_arg rfl))))
    rw [List.length_map] at h5
    refine Nat.le_of_not_lt fun q => ?_
    have q' : (n : Int) < ((ns.length : Nat) : Int) := by omega
    first
      | (rw [decide_eq_true q'] at h5; exact absurd h5 (by decide))
      | (simp at h5; omega)
  cases hwl with
  | cons w1 w2 =>
    cases w2
    cases w1 with
    | list ho hall => exact ⟨_, _, ns, rfl, rfl, ho, ints_of_wellAll ns _ hall, hlen⟩
theorem post_true (l : OpenLaw) (args : List WData) : l.row.toRowW.claim.post args (.bool true) args = true :=
  postW_of (r := l.row.toRowW) (X := (true == true))
    (show WShape.has [] (.bool true) .bool = true by first | rfl | decide | simp [WShape.has, WShape.arms, WShape.armsAll])
    (show (WTm.eq .res (.lit (.bool true))).value [] { args := args, res := some (.bool true), after := args } = some (.bool (true == true)) from w_eq_bool (w_res rfl) w_lit) rfl
theorem attach_call {l : OpenLaw} {n : Nat} {q : Program} {loose : List Str} {XP : (Str → Option Value) → Heap → Prop} {YP : World → Heap → Prop} {d : DefRec}
    (hn : l.most = some n) (hdf : d.params.defaults = [])
    (call : ∀ (w : World) (s₀ s₁ : Shared) (mg mb : Str → Option Value) (fa : Addr) (o : Obj) (pm cd doc : Value) (a : Addr) (vs : List Value) (ns : List Int),
      Ground q loose [] XP w s₀ mg mb s₁.heap → YP w s₁.heap →
      s₁.heap.get? fa = some o → o.data = .func (docDef d.name d.params d.body d.scope pm cd doc) → s₁.heap.CodeRec cd d.name → mg d.name = some (.ref fa) →
      s₁.heap.get? a = some { cls := .type "list", data := .seq vs.toArray } → IntsAre vs ns → ns.length ≤ n → s₁.gens = #[] →
      codeAny (model l.prog w) callerA (.call (.ref fa) ⟨[.ref a], []⟩) (fun r s' => r = .ok (.ret (.bool true)) ∧ OldK s₁.heap s'.heap ∧ s'.os = s₁.os ∧ AllBare s'.gens) s₁) :
    WalkO q loose XP YP l.row.toRowW d [] (fun f vs => PySem.call f vs) := by
  intro w s₀ s₁ mg mb G Y fa o pm cd doc dV kV ho hd hcd hD hmg hg args vals as hpre hlay hrd hwl hlo
  obtain rfl : dV = .none := Dflts.none hD hdf
  obtain rfl : kV = .none := Dflts.noKw hD
  obtain ⟨a, vs, ns, rfl, rfl, hobj, hints, hlen⟩ := script_of hn hpre hwl
  refine enter_call (codeAny_mono (call w s₀ s₁ mg mb fa o pm cd doc a vs ns G Y ho (fd_plain hd) hcd hmg hobj hints hlen hg) fun r s' hq => ?_)
  obtain ⟨rfl, h2, h3, h4⟩ := hq
  exact ⟨.inl ⟨.bool true, .bool true, [], rfl, fun _ => rfl, .bool true, post_true l _, fun _ => ⟨List.Pairwise.nil, fun _ hm => (nomatch hm)⟩⟩, h2, h3, h4⟩
section
variable {prog : Program} {w : World} {A : Around} {E : Value → Shared → Prop} {s : Shared} {K : Frag}
end
end Att
namespace L2
open PySem PySem.Spec PyProof.Rows
theorem vals_ints : ∀ {vs : List Value} {ns : List Int}, IntsAre vs ns → Vals (ns.map V.int) vs
  | _, _, .nil => .nil
  | _, _, .cons n t h => .cons ⟨t, rfl⟩ (vals_ints h)
def Only (H : Hp) : Prop := ∀ b, H b = none ∨ ∃ o xs, H b = some (.frz o (.lst xs))
theorem law_call {P : Program} {w : World} {K : PySem.W.Frag} {mg mb : Str → Option Value} {CX : CXT} {k : Nat} {fa a : Addr} {fd : FuncData} {x : Str} {sp : Sp} {s₁ : Shared} {vs : List Value} {ns : List Int}
    (KX : K.In s₁.heap) (hns : s₁.heap.Ns mainGlobals mg) (hb : s₁.heap.Ns builtinsNs mb) (hbb : ∀ x : Str, x ≠ "__name__" → mb x = bootBuiltins x) (hlim : s₁.heap.NoLimit) (hg : s₁.gens = #[])
    (ha : s₁.heap.get? a = some { cls := .type "list", data := .seq vs.toArray }) (hi : IntsAre vs ns) (hl : ns.length ≤ sizeLine) (hr : Room k callerA)
    (F : ∀ base : Heap, K.In base → base.Ns mainGlobals mg → FnOk P w K mg base CX k fa fd [x] sp) (hbind : ∀ (s : Shared) (u : Value), BindsTo s fd ⟨[u], []⟩ [(x, u)])
    (hsp : ∀ H : Hp, Only H → SqL K H a (ns.map V.int) → sp [.ref a] H (fun v _ => v = .bl true) fun _ _ _ => False)
    (hCX : ∀ H e s', CX [] H s₁ (fun _ _ _ => False) e s' → False) :
    codeAny (model P w) callerA (.call (.ref fa) ⟨[.ref a], []⟩) (fun r s' => r = .ok (.ret (.bool true)) ∧ OldK s₁.heap s'.heap ∧ s'.os = s₁.os ∧ AllBare s'.gens) s₁ := by
  have rv := vals_ints hi
  have lenV := hi.length
  -- from an abstract heap in which nothing but the script may be tracked
  have core : ∀ H : Hp, Only H → SqL K H a (ns.map V.int) → HOk P w H s₁.heap → (∀ b, H b ≠ none → b = a) → (H a ≠ none → K.lookup a = none) →
      codeAny (model P w) callerA (.call (.ref fa) ⟨[.ref a], []⟩) (fun r s' => r = .ok (.ret (.bool true)) ∧ OldK s₁.heap s'.heap ∧ s'.os = s₁.os ∧ AllBare s'.gens) s₁ := by
    intro H hO hS hok hA hK
    have base_of : ∀ {b : Addr} {o : Obj}, s₁.heap.get? b = some o → H b = none → (hidT s₁.heap H).get? b = some o := fun e n => hidT_get e n
    have noA : ∀ {b : Addr} {o : Obj} {es : Array DictEntry} {ep : Nat}, s₁.heap.get? b = some o → o.data = .dict es ep → H b = none := fun {b o es ep} e d => by
      cases q : H b with
      | none => rfl
      | some u =>
        have e' : b = a := hA b (by rw [q]; simp)
        subst e'
        rw [ha] at e; cases e
        have d' : Data.seq vs.toArray _ = Data.dict es ep := d
        cases d'
    have nsK : ∀ {b : Addr} {m : Str → Option Value}, s₁.heap.Ns b m → (hidT s₁.heap H).Ns b m := fun {b m} ⟨o, es, ep, e, d, r⟩ => ⟨o, es, ep, base_of e (noA e d), d, r⟩
    have hKb : K.In (hidT s₁.heap H) := fun b o e => base_of (KX b o e) (by
      cases q : H b with
      | none => rfl
      | some u =>
        have e' : b = a := hA b (by rw [q]; simp)
        subst e'
        rw [hK (by rw [q]; simp)] at e; cases e)
    have hM : Mod K mg (hidT s₁.heap H) := ⟨hKb, nsK hns, ⟨mb, nsK hb, hbb⟩, let ⟨mc, h1, h2⟩ := hlim; ⟨mc, nsK h1, h2⟩⟩
    have e0 : Env0 P w K mg (hidT s₁.heap H) callerA [] s₁ H := ⟨rfl, hM, fun b o e => of_hidT e, Nat.le_of_eq (hidT_size _ _), trivial, fun b hb => absurd (show b ∈ ([] : List Addr) from hb) (by simp), hok, .of_eq hg⟩
    refine codeAny_mono ((F _ hKb (nsK hns)).run callerA [] s₁ H ⟨[.ref a], []⟩ [.ref a] [.ref a] _ _ hr e0 (hbind s₁ (.ref a)) (.cons rfl .nil) (hsp H hO hS)) fun r s' h => ?_
    cases r with
    | error e => exact (hCX H e s' h).elim
    | ok fl =>
      cases fl with
      | next => exact False.elim h
      | brk => exact False.elim h
      | cont => exact False.elim h
      | ret u =>
        obtain ⟨v, H', os, bare, un, hok', r', q⟩ := h
        have q' : v = .bl true := q
        subst q'
        obtain rfl : u = Value.bool true := r'
        refine ⟨rfl, OldK.of_keep fun b o e => ?_, os, bare⟩
        cases q : H b with
        | none => exact un.keep b o e q (by intro z; exact absurd (show b ∈ ([] : List Addr) from z) (by simp)) (by simp)
        | some u =>
          rcases hO b with z | ⟨ob, xs, z⟩
          · rw [q] at z; cases z
          · have z2 := un.frzs b ob _ z
            obtain ⟨e1, _⟩ := hok b _ z
            obtain ⟨e2, _⟩ := hok' b _ z2
            rw [e] at e1; cases e1
            exact e2
  cases hk : K.lookup a with
  | some o =>
    -- the script is one of the module's own objects
    have e := KX a o hk
    rw [ha] at e
    cases e
    refine core (fun _ => none) (fun _ => .inl rfl) (.inr ⟨_, vs.toArray, _, hk, rfl, rfl, rfl, by rw [List.size_toArray, lenV]; exact hl, by simpa using rv⟩) (fun b u z => by have z' : (none : Option HO) = some u := z; cases z') (fun b z => absurd rfl z) fun z => absurd rfl z
  | none =>
    refine core (fun b => if b = a then some (.frz { cls := .type "list", data := .seq vs.toArray } (.lst (ns.map V.int))) else none) (fun b => ?_) (.inl (.inr ⟨{ cls := .type "list", data := .seq vs.toArray }, if_pos rfl⟩)) (fun b u z => ?_) (fun b z => ?_) fun _ => hk
    · by_cases hb : b = a
      · exact .inr ⟨_, _, if_pos hb⟩
      · exact .inl (if_neg hb)
    · by_cases hb : b = a
      · have z' := (if_pos hb).symm.trans z
        cases z'
        subst hb
        exact ⟨ha, by rw [List.length_map]; exact hl, vs, _, rv, ha⟩
      · have z' := (if_neg hb).symm.trans z
        cases z'
    · by_cases hb : b = a
      · exact hb
      · exact absurd (if_neg hb) z
end L2
namespace L2
open PySem PySem.Spec PyProof.Rows
theorem walk_of {l : PySem.W.OpenLaw} {n k : Nat} {q : Program} {loose : List Str} {XP : (Str → Option Value) → Heap → Prop} {YP : World → Heap → Prop} {d : DefRec} {K : Params → PySem.W.Frag} {CX : World → CXT} {sp : World → Sp} {x : Str}
    (hn : l.most = some n) (hn2 : n ≤ sizeLine) (hdf : d.params.defaults = []) (hr : Room k callerA)
    (hY : ∀ (w : World) (h : Heap), YP w h → (K w.params).In h)
    (F : ∀ (w : World) (mg : Str → Option Value) (fa : Addr) (h : Heap), (K w.params).In h → h.Ns mainGlobals mg → mg d.name = some (.ref fa) →
      ∃ fd : FuncData, (∀ (s : Shared) (u : Value), BindsTo s fd ⟨[u], []⟩ [(x, u)]) ∧
        ∀ base : Heap, (K w.params).In base → base.Ns mainGlobals mg → FnOk l.prog w (K w.params) mg base (CX w) k fa fd [x] (sp w))
    (hsp : ∀ (w : World) (H : Hp) (a : Addr) (ns : List Int), ns.length ≤ n → Only H → SqL (K w.params) H a (ns.map V.int) → sp w [.ref a] H (fun v _ => v = .bl true) fun _ _ _ => False)
    (hCX : ∀ (w : World) (H : Hp) (s : Shared) (e : Value) (s' : Shared), CX w [] H s (fun _ _ _ => False) e s' → False) :
    PySem.W.WalkO q loose XP YP l.row.toRowW d [] (fun f vs => PySem.call f vs) := by
  refine Att.attach_call hn hdf fun w s₀ s₁ mg mb fa o pm cd doc a vs ns G Y ho hd hcd hmg hobj hints hlen hg => ?_
  have KX := hY w _ Y
  obtain ⟨fd, hb, hF⟩ := F w mg fa _ KX G.T.g hmg
  exact law_call KX G.T.g G.T.b G.T.builtins G.T.nolimit hg hobj hints (Nat.le_trans hlen hn2) hr hF hb (fun H hO hS => hsp w H a ns hlen hO hS) fun H e s' => hCX w H s₁ e s'
theorem walk_ofK {l : PySem.W.OpenLaw} {n k : Nat} {q : Program} {loose : List Str} {XP : (Str → Option Value) → Heap → Prop} {YP : World → Heap → Prop} {d : DefRec} {K : Params → PySem.W.Frag} {CX : CXT} {sp : PySem.W.Frag → Sp} {x : Str}
    (hn : l.most = some n) (hn2 : n ≤ sizeLine) (hdf : d.params.defaults = []) (hr : Room k callerA)
    (hY : ∀ (w : World) (h : Heap), YP w h → (K w.params).In h)
    (F : ∀ (w : World) (mg : Str → Option Value) (fa : Addr) (h : Heap), (K w.params).In h → h.Ns mainGlobals mg → mg d.name = some (.ref fa) →
      ∃ fd : FuncData, (∀ (s : Shared) (u : Value), BindsTo s fd ⟨[u], []⟩ [(x, u)]) ∧
        ∀ base : Heap, (K w.params).In base → base.Ns mainGlobals mg → FnOk l.prog w (K w.params) mg base CX k fa fd [x] (sp (K w.params)))
    (hsp : ∀ (K : PySem.W.Frag) (H : Hp) (a : Addr) (ns : List Int), ns.length ≤ n → Only H → SqL K H a (ns.map V.int) → sp K [.ref a] H (fun v _ => v = .bl true) fun _ _ _ => False)
    (hCX : ∀ (H : Hp) (s : Shared) (e : Value) (s' : Shared), CX [] H s (fun _ _ _ => False) e s' → False) :
    PySem.W.WalkO q loose XP YP l.row.toRowW d [] (fun f vs => PySem.call f vs) :=
  walk_of (K := K) (CX := fun _ => CX) (sp := fun w => sp (K w.params)) hn hn2 hdf hr hY F (fun w H a ns h1 h2 h3 => hsp (K w.params) H a ns h1 h2 h3) fun _ H s e s' => hCX H s e s'
end L2
namespace L2
open PySem PySem.Spec PyProof.Rows
def defArgs (s : Stmt) : Arguments := match s with
  | .FunctionDef _ a _ _ _ _ _ _ _ _ => a
  | _ => { posonlyargs := [], args := [], vararg := none, kwonlyargs := [], kw_defaults := [], kwarg := none, defaults := [] }
def defBody (s : Stmt) : List Stmt := match s with
  | .FunctionDef _ _ b _ _ _ _ _ _ _ => b
  | _ => []
def defScope (s : Stmt) : Scope := match s with
  | .FunctionDef _ _ _ _ _ _ sc _ _ _ => sc
  | _ => { kind := .function, names := [], isGenerator := false, isCoroutine := false }
abbrev CX0 : CXT := fun _ _ _ _ _ _ => False
abbrev E0 : XK := fun _ _ _ => False
theorem pass0 {X : Cx} : Passes CX0 X E0 := fun _ _ _ _ _ _ _ h => h.elim
structure Fun (K : PySem.W.Frag) (x qual : Str) (st : Stmt) (f : Addr) (fd : FuncData) : Prop where
  ex : ∃ (oc : Value) (od : Option Addr) (kV doc pm : Value) (an : Option Addr) (cdv ct : Value) (osl : Array (Option Value)),
    fd = PySem.W.fnOf x qual (defArgs st) (defBody st) (defScope st) .none kV doc pm an cdv ct ∧ K.lookup f = some ⟨oc, od, .func fd, osl⟩ ∧ PySem.W.codeIn K cdv qual = true
  kp : PySem.W.keepIn K (.ref f) = true
section
variable {P : Program} {w : World} {K : PySem.W.Frag} {mg : Str → Option Value} {base : Heap}
theorem Fun.ok {x qual : Str} {st : Stmt} {f : Addr} {fd : FuncData} {N ps : List Str} {k : Nat} {sp : Sp} (F : Fun K x qual st f fd) (S : FnScope N ps (defScope st)) (len : ∀ vs H Q E, sp vs H Q E → vs.length = ps.length)
    (hbody : ∀ (cdv : Value) (A : Around) (outer : List Env) (s : Shared) (H : Hp) (vs : List V) (Q : VK) (E : XK), Room k (A.deeper (envOfC qual (defScope st) s.heap.objs.size f cdv)) → sp vs H Q E →
      ∃ t, PSs (cxOf CX0 P w K mg base N qual (defScope st) f cdv A outer s H E).nox (defBody st) t ∧ t { nx := fun _ H' => Q .non H', rt := Q } (start N vs) H) : FnOk P w K mg base CX0 (k + 1) f fd ps sp := by
  obtain ⟨oc, od, kV, doc, pm, an, cdv, ct, osl, rfl, lk, hcd⟩ := F.ex
  refine fn_of lk hcd S len fun A outer s H vs Q E hr hsp => ?_
  obtain ⟨t, h, q⟩ := hbody cdv A outer s H vs Q E hr hsp
  exact ⟨t, h.nox, q⟩
theorem Fun.binds {x qual : Str} {st : Stmt} {f : Addr} {fd : FuncData} {ps : List Str} (F : Fun K x qual st f fd)
    (h : ∀ (kV doc pm : Value) (an : Option Addr) (cdv ct : Value) (us : List Value), us.length = ps.length → bindArgs (PySem.W.fnOf x qual (defArgs st) (defBody st) (defScope st) .none kV doc pm an cdv ct) ⟨us, []⟩ = pure (ps.zip us)) : Binds K fd ps [] := by
  obtain ⟨oc, od, kV, doc, pm, an, cdv, ct, osl, rfl, lk, hcd⟩ := F.ex
  exact .all (h kV doc pm an cdv ct)
theorem fun_mk {x qual : Str} {st : Stmt} {f : Addr} {oc : Value} {od an : Option Addr} {osl : Array (Option Value)} {kV doc pm cdv ct : Value} (l : K.lookup f = some ⟨oc, od, .func (PySem.W.fnOf x qual (defArgs st) (defBody st) (defScope st) .none kV doc pm an cdv ct), osl⟩)
    (c : PySem.W.codeIn K cdv qual = true) (k : PySem.W.keepIn K (.ref f) = true) : Fun K x qual st f (PySem.W.fnOf x qual (defArgs st) (defBody st) (defScope st) .none kV doc pm an cdv ct) := ⟨⟨oc, od, kV, doc, pm, an, cdv, ct, osl, rfl, l, c⟩, k⟩
end
section
variable {X : Cx}
theorem pv (i : Nat) {x : Str} {pos : Pos} (hN : X.N[i]? = some x := by rfl) (hv : Vis X.env.scope x := by first | exact Or.inl rfl | exact Or.inr (Or.inl rfl) | exact Or.inr (Or.inr rfl)) (hd : (x == ("__debug__" : Str)) = false := by decide)
    (hcd : (x == ("__classdict__" : Str)) = false := by decide) : PE X (.Name x pos) (tVar i) := pe_var hN hv hd hcd
end
theorem iteF {A B : Prop} (h : B) : if false = true then A else B := by
  rw [if_neg Bool.false_ne_true]
  exact h
theorem iteT {A B : Prop} (h : A) : if true = true then A else B := by
  rw [if_pos rfl]
  exact h
theorem ite2 {c A B : Prop} [Decidable c] (h1 : c → A) (h2 : ¬ c → B) : if c then A else B := by
  by_cases h : c
  · rw [if_pos h]
    exact h1 h
  · rw [if_neg h]
    exact h2 h
def Same (H H' : Hp) : Prop := ∀ b o, H b = some o → H' b = some o
theorem Same.refl (H : Hp) : Same H H := fun _ _ h => h
theorem Same.trans {H H1 H2 : Hp} (a : Same H H1) (b : Same H1 H2) : Same H H2 := fun c o h => b c o (a c o h)
theorem Same.free {H H' : Hp} (e : Same H H') {l : Addr} (h : H' l = Option.none) : H l = Option.none := by
  cases q : H l with
  | none => rfl
  | some o =>
    rw [e l o q] at h
    cases h
theorem Same.seq {K : PySem.W.Frag} {H H' : Hp} {a : Addr} {xs : List V} (e : Same H H') (h : SqL K H a xs) : SqL K H' a xs := by
  rcases h with (h | ⟨o, h⟩) | h
  · exact .inl (.inl (e _ _ h))
  · exact .inl (.inr ⟨o, e _ _ h⟩)
  · exact .inr h
end L2
set_option Elab.async false
set_option linter.all false
set_option maxRecDepth 100000
namespace L2
open PySem PySem.Spec PyProof.Rows
theorem PS.nox {X : Cx} {st : Stmt} {t : TS} (h : PS X.nox st t) : PS X st t := fun pins s σ H D I hw =>
  wpAny_mono (h pins s σ H D (I.wish _) hw) (fun _ _ q => q.unwish) fun _ _ z => False.elim z
theorem ObjOk.some_ {P : Program} {w : World} {H : Hp} {h : Heap} {a : Addr} {o : HO} (x : ObjOk P w H h a o) : ∃ ob, h.get? a = some ob := by
  cases o with
  | lst xs => obtain ⟨_, _, _, _, e⟩ := x; exact ⟨_, e⟩
  | tup xs => obtain ⟨_, _, _, ob, e, _⟩ := x; exact ⟨_, e⟩
  | dK kvs => obtain ⟨_, _, _, _, o, _, _, e, _⟩ := x; exact ⟨_, e⟩
  | dT kvs => obtain ⟨_, _, _, _, o, _, _, e, _⟩ := x; exact ⟨_, e⟩
  | set S n => obtain ⟨o, _, _, _, e, _⟩ := x; exact ⟨_, e⟩
  | ins C dx fs => obtain ⟨_, _, _, e, _⟩ := x; exact ⟨_, e⟩
  | own y => obtain ⟨_, e⟩ := x; exact ⟨_, e⟩
  | xd fs => obtain ⟨_, ⟨_, _, _, e, _⟩, _⟩ := x; exact ⟨_, e⟩
  | rng lo hi => obtain ⟨_, _, _, e⟩ := x; exact ⟨_, e⟩
  | frz ob u => obtain ⟨e, _⟩ := x; exact ⟨_, e⟩
  | tbl ps => exact ⟨_, (show h.get? a = some _ from x)⟩
  | met f y => exact ⟨_, (show h.get? a = some _ from x)⟩
  | ext φ => obtain ⟨_, ⟨_, e⟩, _⟩ := x; exact ⟨_, e⟩
theorem Inv.there {X : Cx} {pins : List (Addr × Obj)} {σ : St} {H : Hp} {s : Shared} (I : Inv X pins σ H s) {a : Addr} {o : HO} (e : H a = some o) : ∃ ob, s.heap.get? a = some ob := (I.hok a o e).some_
theorem Inv.none_of {X : Cx} {pins : List (Addr × Obj)} {σ : St} {H : Hp} {s : Shared} (I : Inv X pins σ H s) {a : Addr} (e : s.heap.get? a = none) : H a = none := by
  cases q : H a with
  | none => rfl
  | some o =>
    obtain ⟨ob, z⟩ := I.there q
    rw [e] at z
    cases z
structure Fly (h0 h : Heap) (H : Hp) (C ea T : Addr) : Prop where
  ob : ∃ (oe : Obj) (vs : Array Value) (a0 : Value) (oT : Obj) (ts : Array Value), h.get? ea = some oe ∧ oe.cls = .ref C ∧ oe.data = .fields vs ∧ vs[0]? = some a0 ∧ vs[1]? = some (.ref T) ∧ h.get? T = some oT ∧ oT.data = .fields ts ∧ ts[3]? = some .none
  ne : T ≠ ea
  fe : H ea = none
  fT : H T = none
  ne0 : h0.get? ea = none
  nT0 : h0.get? T = none
def CXE (P : Program) (w : World) : CXT := fun outer H s E e s' => ∃ (ea T C : Addr) (H' : Hp), e = .ref ea ∧ s'.os = s.os ∧ AllBare s'.gens ∧ Un (frs outer) [] H H' s.heap s'.heap ∧ HOk P w H' s'.heap ∧ Fly s.heap s'.heap H' C ea T ∧ E (.ref C) none H'
theorem passE0 {P : Program} {w : World} {X : Cx} : Passes (CXE P w) X E0 := fun _ _ _ _ _ _ _ ⟨_, _, _, _, _, _, _, _, _, _, z⟩ => z.elim
structure Exc (K : PySem.W.Frag) (mg : Str → Option Value) (x : Str) (C : Addr) : Prop where
  bound : mg x = some (.ref C)
  ex : PySem.W.excIn K C [.type "ValueError", .type "Exception", .type "BaseException", .type "object"] "ValueError.__new__" = true
theorem exc_obj {K : PySem.W.Frag} {h : Heap} {C : Addr} {bmB : List Value} {newId : String} (X : K.In h) (q : PySem.W.excIn K C bmB newId = true) :
    ∃ bm N nm qn bs hdct sn sub ab col dd k0 k1 k2 k3 k5 mN, h.get? C = some (excClassObj nm qn C N bs bm hdct sn sub ab col dd k0 k1 k2 k3 k5 newId) ∧ h.Ns N mN ∧ mN "__init__" = none ∧ OwnTail h bmB bm := by
  unfold PySem.W.excIn at q
  split at q
  case h_2 => cases q
  case h_1 dd cd sl ho =>
    split at q
    case h_2 => cases q
    case h_1 C' bm k0 k1 k2 k3 n k5 hm hs =>
      simp only [Bool.and_eq_true, beq_iff_eq, Bool.not_eq_true'] at q
      obtain ⟨⟨⟨⟨⟨e1, e2⟩, e3⟩, e4⟩, e5⟩, e6⟩ := q
      subst e1 e2
      cases cd with
      | mk nm bs mro ns qn hd sn sub ab col del =>
        have hsl : sl = #[k0, k1, k2, k3, some (.builtin n), k5] := by rw [← Array.toList_inj]; exact hs
        simp only at hm e3 e5 e6
        subst hm e3 hsl
        exact ⟨bm, ns, nm, qn, bs, hd, sn, sub, ab, col, dd, k0, k1, k2, k3, k5, _, X _ _ ho, .of_isNs (PySem.W.isNs_of_in X e5), PySem.W.nsMap_none_of_in X e5 e6, PySem.W.tail_of_in X e4⟩
def tRaise (C : Addr) (t : TA) (E : XK) : TS := fun _ σ H => t σ H fun xs H1 => xs.length ≤ sizeLine ∧ E (.ref C) none H1
theorem Inv.hid {X : Cx} {pins : List (Addr × Obj)} {σ : St} {H : Hp} {s : Shared} (I : Inv X pins σ H s) (as : List Addr) (hs : ∀ b ∈ frs X.stack, b ∈ as) : s.heap.FunFrames (PySem.W.hideAll s.heap as) X.stack :=
  PySem.W.funFrames_hide I.stack fun env he a hf => hs a (List.mem_filterMap.mpr ⟨env, he, hf⟩)
section
variable {P : Program} {w : World} {K : PySem.W.Frag} {mg : Str → Option Value} {base : Heap} {N : List Str} {qual : Str} {scope : Scope} {f : Addr} {cd : Value} {A : Around} {outer : List Env} {s₀ : Shared} {H₀ : Hp} {E : XK}
theorem leaves_made {pins : List (Addr × Obj)} {σ : St} {H : Hp} {s : Shared} {C e : Addr} {vs : List Value} {h' : Heap} (I : Inv (cxOf (CXE P w) P w K mg base N qual scope f cd A outer s₀ H₀ E) pins σ H s)
    (hx : Heap.MadeExcOf s.heap h' e (.ref C) vs) (q : E (.ref C) none H) : (cxOf (CXE P w) P w K mg base N qual scope f cd A outer s₀ H₀ E).xe (.ref e) { s with heap := h' } := by
  have hin : ∀ b ∈ frs (envOfC qual scope s₀.heap.objs.size f cd :: outer), b ∈ frs (envOfC qual scope s₀.heap.objs.size f cd :: outer) := fun _ z => z
  have ff := I.hid _ hin
  show wpAny _ _ (leaving _ _) _ _ _
  refine wpAny_leaves_madeW (base := PySem.W.hideAll s.heap (frs (envOfC qual scope s₀.heap.objs.size f cd :: outer))) (h := s.heap) I.ok.frames rfl (fun b o z => PySem.W.of_hideAll _ z) ff hx fun h2 t fl tt tn up => ?_
  have inB : ∀ b o, b ∉ frs (envOfC qual scope s₀.heap.objs.size f cd :: outer) → s.heap.get? b = some o → h2.get? b = some o := fun b o nb z => fl.1 b o (PySem.W.hideAll_get _ z nb)
  have upS : ∀ b o, b ∈ frs (envOfC qual scope s₀.heap.objs.size f cd :: outer) → s.heap.get? b = some o → ∃ sl, h2.get? b = some { o with slots := sl } := fun b o nb z => by
    obtain ⟨_, o', z', hd⟩ := I.stack.mem nb
    rw [z] at z'
    cases z'
    exact up b o (hx.keeps b o z) hd
  have notL : ∀ b o, s₀.heap.get? b = some o → b ∉ frs outer → b ∉ frs (envOfC qual scope s₀.heap.objs.size f cd :: outer) := fun b o z nb m => by
    rcases List.mem_cons.mp (I.stkSub b m) with z' | z'
    · have := Heap.lt_size z
      have z' : b = s₀.heap.objs.size := z'
      rw [z'] at this
      exact Nat.lt_irrefl _ this
    · exact nb z'
  have thr : ∀ b o, s.heap.get? b = some o → ∃ o', h2.get? b = some o' := fun b o z => by
    by_cases hb : b ∈ frs (envOfC qual scope s₀.heap.objs.size f cd :: outer)
    · obtain ⟨sl, z'⟩ := upS b o hb z
      exact ⟨_, z'⟩
    · exact ⟨o, inB b o hb z⟩
  obtain ⟨_, _, _, oe, vs', T, oT, ts, a1, ⟨a2, a3⟩, a4, a5, a6, a7, a8, a9, a10⟩ := fl
  have noT : s.heap.get? T = none := by
    cases z : s.heap.get? T with
    | none => rfl
    | some o =>
      by_cases hb : T ∈ frs (envOfC qual scope s₀.heap.objs.size f cd :: outer)
      · obtain ⟨_, o', z', hd⟩ := I.stack.mem hb
        obtain ⟨sl, z2⟩ := upS T o hb z
        rw [z] at z'
        cases z'
        rw [a8] at z2
        cases z2
        exact absurd a9 (hd ts)
      · rw [PySem.W.hideAll_get _ z hb] at a6
        cases a6
  have no0 : ∀ b, s.heap.get? b = none → s₀.heap.get? b = none := fun b z => by
    cases y : s₀.heap.get? b with
    | none => rfl
    | some o =>
      obtain ⟨o', z'⟩ := I.base.there b o y (fun m => nomatch m)
      rw [z] at z'
      cases z'
  refine ⟨e, T, C, H, rfl, I.os, I.bare, ⟨fun b o z n nb _ => ?_, fun b o z n nb _ => ?_, fun b o z n _ => I.base.free b o z n (fun m => nomatch m), fun b o z _ => ?_, I.base.tups, I.base.frzs, I.base.tbls⟩, fun a o z => ?_,
    ⟨⟨oe, vs', .ref t, oT, ts, a1, a2, a4, a3, a5, a8, a9, a10⟩, a7, I.none_of hx.new, I.none_of noT, no0 _ hx.new, no0 _ noT⟩, q⟩
  · exact inB b o (notL b o z nb) (I.base.keep b o z n nb (fun m => nomatch m))
  · obtain ⟨sl, z1⟩ := I.base.slot b o z n nb (fun m => nomatch m)
    obtain ⟨sl', z2⟩ := upS b _ (by
      show b ∈ frs _
      unfold frs
      rw [List.filterMap_cons]
      exact List.mem_cons_of_mem _ nb) z1
    exact ⟨sl', z2⟩
  · obtain ⟨o', z'⟩ := I.base.there b o z (fun m => nomatch m)
    exact thr b o' z'
  · refine (I.hok a o z).stay (fun b u hb r => ?_) (fun _ y => y) fun _ _ y => y
    refine inB b u (fun m => ?_) r
    have := I.stkFree b m
    rcases hb with rfl | hb
    · rw [z] at this; cases this
    · rw [hb] at this; cases this
theorem ps_raise {x : Str} {C : Addr} {e : Expr} {es : List Expr} {t : TA} {np cpos pos : Pos} (ex : Exc K mg x C) (hh : A.handled = none) (hg : Gl (cxOf (CXE P w) P w K mg base N qual scope f cd A outer s₀ H₀ E) x)
    (ha : PA (cxOf (CXE P w) P w K mg base N qual scope f cd A outer s₀ H₀ E) (e :: es) t)
    (hs : starEach (e :: es) (envOfC qual scope s₀.heap.objs.size f cd) = (false, eval e (envOfC qual scope s₀.heap.objs.size f cd)) :: starEach es (envOfC qual scope s₀.heap.objs.size f cd) := by rfl)
    (hpl : (backTo cpos (starEach es (envOfC qual scope s₀.heap.objs.size f cd))).any (·.1) = false := by rfl) (hd : (x == ("__debug__" : Str)) = false := by decide) :
    PS (cxOf (CXE P w) P w K mg base N qual scope f cd A outer s₀ H₀ E) (.Raise (some (.Call (.Name x np) (e :: es) [] cpos)) none pos) (tRaise C t E) := by
  intro pins s σ H D I h
  obtain ⟨bm, N', nm, qn, bs, hdct, sn, sub, ab, col, dd, k0, k1, k2, k3, k5, mN, hC, hN, hni, TL⟩ := exc_obj (h := base) I.mod.kin ex.ex
  refine wpAny_Raise_call_subT (C := C) (nm := nm) (q := qn) (N := N') (bs := bs) (bm := bm) (hdct := hdct) (sn := sn) (sub := sub) (ab := ab) (col := col) (dd := dd) (k0 := k0) (k1 := k1) (k2 := k2) (k3 := k3) (k5 := k5)
    PySem.F.excBase_ValueError (mN := mN) (TL.hasType PySem.F.excBase_ValueError.hasBase) hh (by
      show (backTo cpos (starEach (e :: es) (envOfC qual scope s₀.heap.objs.size f cd))).any (·.1) = false
      rw [hs]
      show (false || (backTo cpos (starEach es (envOfC qual scope s₀.heap.objs.size f cd))).any (·.1)) = false
      rw [hpl]
      rfl) hni (ld_glob I hg ex.bound ⟨rfl, ?_⟩ hd)
  have h1 := ha cpos pins s σ H _ I h
  show wpAny _ _ (evalArgs (.ref C) true (backTo cpos (starEach (e :: es) (envOfC qual scope s₀.heap.objs.size f cd))) []) _ _ _
  have h1 : wpAny _ _ (spliced (backTo cpos (starEach (e :: es) (envOfC qual scope s₀.heap.objs.size f cd)))) _ _ s := h1
  rw [hs] at h1 ⊢
  refine Calls.evalArgs_plain (wpAny_mono h1 (fun us s2 ⟨xs, H2, I2, r, z, q⟩ => ⟨rfl, ?_, I2.bk _ _ hC, hN.keeps I2.bk, TL.keeps I2.bk, fun h' e' hx => ?_⟩) fun _ _ y => y)
  · rw [← r.length]; exact z
  · exact leaves_made I2 hx q
end
theorem Fun.okE {P : Program} {w : World} {K : PySem.W.Frag} {mg : Str → Option Value} {base : Heap} {x qual : Str} {st : Stmt} {f : Addr} {fd : FuncData} {N ps : List Str} {k : Nat} {sp : Sp} (F : Fun K x qual st f fd) (S : FnScope N ps (defScope st)) (len : ∀ vs H Q E, sp vs H Q E → vs.length = ps.length)
    (hbody : ∀ (cdv : Value) (A : Around) (outer : List Env) (s : Shared) (H : Hp) (vs : List V) (Q : VK) (E : XK), Room k (A.deeper (envOfC qual (defScope st) s.heap.objs.size f cdv)) → A.handled = none → sp vs H Q E →
      ∃ t, PSs (cxOf (CXE P w) P w K mg base N qual (defScope st) f cdv A outer s H E) (defBody st) t ∧ t { nx := fun _ H' => Q .non H', rt := Q } (start N vs) H) : FnOk P w K mg base (CXE P w) (k + 1) f fd ps sp := by
  obtain ⟨oc, od, kV, doc, pm, an, cdv, ct, osl, rfl, lk, hcd⟩ := F.ex
  exact fn_of lk hcd S len fun A outer s H vs Q E hr hsp => hbody cdv A outer s H vs Q E hr hr.hd hsp
end L2
set_option Elab.async false
set_option linter.all false
set_option maxRecDepth 100000
namespace L2
open PySem PySem.Spec PyProof.Rows
section
variable {prog : Program} {w : World} {A : Around} {E : Value → Shared → Prop} {z : Shared}
end
theorem Inv.track {X : Cx} {pins : List (Addr × Obj)} {σ : St} {H : Hp} {s : Shared} {p : Addr} {o : HO} (I : Inv X pins σ H s) (hn : H p = none) (h0 : X.s₀.heap.get? p = none) (hl : p ≠ X.env.locals)
    (hc : ∀ x c, X.env.cells.lookup x = some c → c ≠ p) (hp : ∀ q ∈ X.pn ++ pins, q.1 ≠ p) (new : ObjOk X.prog X.w (upd H p o) s.heap p o) : Inv X pins σ (upd H p o) s where
  ok := I.ok
  os := I.os
  bare := I.bare
  base := ⟨I.base.keep, I.base.slot, fun b ob e n hx => by
      rw [upd_ne (fun z => by rw [z, h0] at e; cases e)]
      exact I.base.free b ob e n hx, I.base.there,
    fun b xs e => by rw [upd_ne (ne_of_none (I.base.tups b xs e) hn)]; exact I.base.tups b xs e,
    fun b ob u e => by rw [upd_ne (ne_of_none (I.base.frzs b ob u e) hn)]; exact I.base.frzs b ob u e,
    fun b ps e => by
      obtain ⟨m, z⟩ := I.base.tbls b ps e
      exact ⟨m, by rw [upd_ne (ne_of_none z hn)]; exact z⟩⟩
  loc := I.loc
  cell := I.cell
  free := by rw [upd_ne hl.symm]; exact I.free
  freeC := fun x c e => by rw [upd_ne (hc x c e)]; exact I.freeC x c e
  pin := fun q m => by
    obtain ⟨a, b, c⟩ := I.pin q m
    exact ⟨a, by rw [upd_ne (hp q m)]; exact b, c⟩
  hok := fun b u e => by
    by_cases hb : b = p
    · subst hb
      rw [upd_same] at e
      cases e
      exact new
    · rw [upd_ne hb] at e
      exact (I.hok b u e).stay (fun _ _ _ q => q) (fun c q => by rw [upd_ne (ne_of_none q hn)]; exact q) fun c xs q => by rw [upd_ne (ne_of_none q hn)]; exact q
  len := I.len
theorem Inv.turned2 {X : Cx} {pins : List (Addr × Obj)} {σ : St} {H : Hp} {s : Shared} {h' : Heap} {t' : Nat} {i j : Addr} (I : Inv X pins σ H s) (k : ∀ b o, b ≠ i → b ≠ j → s.heap.get? b = some o → h'.get? b = some o) (fi : FpOk X pins H i) (fj : FpOk X pins H j) :
    Inv X pins σ H { s with heap := h', toks := t' } := by
  obtain ⟨a0, a1, a2, a3, a4, a5⟩ := fi
  obtain ⟨b0, b1, b2, b3, b4, b5⟩ := fj
  have nit : ∀ b u, H b = some u → b ≠ i ∧ b ≠ j := fun b u e => ⟨(fun z => by rw [z, a0] at e; cases e), (fun z => by rw [z, b0] at e; cases e)⟩
  have kk : ∀ b o, b ∉ [i, j] → s.heap.get? b = some o → h'.get? b = some o := fun b o m e => k b o (fun z => m (by simp [z])) (fun z => m (by simp [z])) e
  refine I.step (g' := s.gens) (d' := s.drawn) (ch := [i, j]) (fun b hb => ?_) (fun b o _ _ m e _ => kk b o m e) (fun b o _ _ m e _ => ⟨o.slots, kk b o m e⟩) (fun _ _ _ _ n => n) (fun b o m e => ⟨o, kk b o m e⟩) (fun _ _ e => e) (fun _ _ _ e => e)
    (fun b ps e => ⟨#[], by rw [e]; simp⟩) (fun m hm => ?_) (fun b u e => ?_) I.bare
  · rcases List.mem_cons.mp hb with rfl | hb
    · exact ⟨a3, a1, a4, a5⟩
    · obtain rfl := List.mem_singleton.mp hb
      exact ⟨b3, b1, b4, b5⟩
  · obtain ⟨o, es, ep, ho, r⟩ := hm
    exact ⟨o, es, ep, k _ o a1.symm b1.symm ho, r⟩
  · refine (I.hok b u e).stay (fun c v hc q => k c v ?_ ?_ q) (fun _ q => q) fun _ _ q => q
    · rcases hc with z | z
      · rw [z]; exact (nit b u e).1
      · exact (nit c _ z).1
    · rcases hc with z | z
      · rw [z]; exact (nit b u e).2
      · exact (nit c _ z).2
end L2
set_option Elab.async false
set_option linter.all false
set_option maxRecDepth 100000
namespace L2
open PySem PySem.Spec PyProof.Rows
theorem getD_at {α : Type} {xs : List α} {i : Nat} {d : α} (h : i < xs.length) : xs.getD i d = xs[i] := by
  rw [List.getD_eq_getElem?_getD, List.getElem?_eq_getElem h]
  rfl
section
variable {X : Cx}
theorem nums_of {ns : List Int} {its : List Value} (r : Vals (ns.map V.int) its) : ∀ (i : Nat) (v : Value), its.toArray[i]? = some v → ∃ t, v = Value.int (ns.getD i 0) t := by
  intro i v e
  rw [List.getElem?_toArray] at e
  have hl := r.length
  have hi : i < its.length := (List.getElem?_eq_some_iff.mp e).1
  rw [List.length_map] at hl
  have hx : (ns.map V.int)[i]? = some (.int (ns.getD i 0)) := by
    rw [List.getElem?_map, List.getElem?_eq_getElem (by omega)]
    simp [List.getD, show i < ns.length by omega]
  obtain ⟨u, hu, ru⟩ := r.get hx
  rw [e] at hu
  cases hu
  exact ru
theorem val_at {xs : List V} {us : List Value} (r : Vals xs us) {j : Nat} (h1 : j < us.length) : RelV (xs.getD j .non) us[j] := by
  have hl := r.length
  obtain ⟨u, hu, ru⟩ := r.get (i := j) (x := xs.getD j .non) (by rw [List.getElem?_eq_getElem (by omega), getD_at (by omega)])
  rw [List.getElem?_eq_getElem h1] at hu
  cases hu
  exact ru
end
end L2
set_option linter.all false
namespace Srt
open PySem.W PyProof.Rows
section
variable {key : Nat → Int} {n : Nat}
end
end Srt
set_option Elab.async false
set_option linter.all false
set_option maxRecDepth 100000
namespace L2
open PySem PySem.Spec PyProof.Rows PySem.W
section
variable {X : Cx} {pins : List (Addr × Obj)} {σ : St} {H : Hp} {s : Shared}
structure Young (X : Cx) (pins : List (Addr × Obj)) (b : Addr) : Prop where
  lo : b ≠ X.env.locals
  fs : b ∉ X.fs
  ge : b ∈ X.ex ∨ X.s₀.heap.objs.size ≤ b
  ce : ∀ x c, X.env.cells.lookup x = some c → c ≠ b
  pi : ∀ p ∈ X.pn ++ pins, p.1 ≠ b
theorem Inv.young (I : Inv X pins σ H s) {b : Addr} (hb : s.heap.objs.size ≤ b) : Young X pins b := by
  obtain ⟨_, a1, a2, a3, a4, a5⟩ := I.fpOk (b := b) hb (H' := fun _ => none) rfl
  exact ⟨a1, a2, a3, a4, a5⟩
theorem Inv.record (I : Inv X pins σ H s) {b : Addr} {h' : Heap} (y : Young X pins b) (hn : H b = none) (hs : Heap.SameBut b s.heap h') : Inv X pins σ H { s with heap := h' } :=
  I.turned (t' := s.toks) (fun c o nc e => (hs.2 c nc).trans e) hn y.lo y.ge y.ce y.pi
end
end L2
set_option Elab.async false
set_option linter.all false
set_option maxRecDepth 100000
namespace L2
open PySem PySem.Spec PyProof.Rows PySem.W
section
variable {X : Cx} {pins : List (Addr × Obj)} {σ : St} {H : Hp} {s : Shared}
end
end L2
set_option Elab.async false
set_option linter.all false
set_option maxRecDepth 100000
namespace L2
open PySem PySem.Spec PyProof.Rows PySem.W Builtin.Getset_descriptor
def ExcIs (ea C : Addr) : Heap → Prop := fun h => ∃ o, h.get? ea = some o ∧ o.cls = .ref C
theorem ExcIs.ok {P : Program} {w : World} {H : Hp} {h : Heap} {ea C : Addr} (x : ExcIs ea C h) : ObjOk P w H h ea (.ext (ExcIs ea C)) :=
  ⟨x, let ⟨o, e, _⟩ := x; ⟨o, e⟩, fun _ _ ⟨o, e, c⟩ k => ⟨o, k o e, c⟩⟩
theorem ExcIs.ty {M : Model} {h : Heap} {ea C : Addr} (x : ExcIs ea C h) : Looks M h (typeOf (.ref ea)) (.ref C) := by
  obtain ⟨o, e, c⟩ := x
  rw [← c]
  exact (Looks.ld e).andThen .now
section
variable {prog : Program} {w : World} {A : Around} {E : Value → Shared → Prop} {K : Frag} {x C : Addr}
theorem exc_class_get {s : Shared} {tp : Value} {R : Result → Shared → Prop} (X : K.In s.heap) (J : ExcIs x C s.heap) (hm : mroIn K C (.type "object") = some true) (q : R (.ok (.ret (.ref C))) s) :
    codeAny (model prog w) A (.call (.builtin "getset_descriptor.__get__") ⟨[.builtin "object.__class__", .ref x, tp], []⟩) R s := by
  obtain ⟨h0, g0, d0, t0, o0⟩ := s
  have LT := J.ty (M := model prog w)
  have LM := looks_mroIn (M := model prog w) X hm
  refine codeAny_call_builtin KF.slot_gs.plain KF.entry_gs ?_
  refine KF.slot_gs.check _ _ _ _ _ _ _ _ KF.type_class (KF.args_gs _ _ _) ?_
  unfold Builtin.«getset_descriptor.__get__»
  unfold descrGet
  rw [dga_obj]
  refine wpAny_bind ?_
  refine wpAny_pure ?_
  unfold descrGetter
  unfold descrCheckInstance
  unfold descrNameAndClass
  unfold isInstance
  simp only [KF.owner_class]
  repeat lk
  refine ⟨Code.quiet_builtin _ (by decide +kernel), ?_⟩
  refine codeAny_builtin KF.entry_class ?_
  unfold Builtin.«object.__class__»
  unfold shownTypeOf
  repeat lk
  exact q
structure ExcCls (K : Frag) (C : Addr) : Prop where
  ga : findIn K (.ref C) "__getattribute__" = some (some (.builtin "BaseException.__getattribute__"))
  gn : findIn K (.ref C) "__getattr__" = some none
  ha : findIn K (.ref C) "__class__" = some (some (.builtin "object.__class__"))
  hn : specialIn K (.builtin "object.__class__") "__get__" = some (some (.builtin "getset_descriptor.__get__"))
  tk : takesIn K (.builtin "object.__class__") = some true
  mo : mroIn K C (.type "object") = some true
  mb : mroIn K C (.type "BaseException") = some true
  ty : typeIn K (.ref C) = some (.type "type")
  cl : (clsIn K C).isSome = true
theorem exc_find {M : Model} {h : Heap} (X : K.In h) (J : ExcIs x C h) (c : ExcCls K C) : Looks M h (Builtin.ObjectAttr.find (.ref x) (.ref C) "__class__") (.bind (.builtin "getset_descriptor.__get__") (.builtin "object.__class__")) := by
  have L1 := looks_findIn (M := M) X c.ha
  have L2 : Looks M h (Builtin.ObjectAttr.getOf (some (.builtin "object.__class__"))) (some (.builtin "getset_descriptor.__get__")) := looks_specialIn X c.hn
  have L3 := looks_takesIn (M := M) X c.tk
  exact L1.andThen (L2.andThen ((show Looks M h (Builtin.ObjectAttr.dataDescriptor? (some (.builtin "object.__class__")) (some (.builtin "getset_descriptor.__get__"))) (some (.builtin "getset_descriptor.__get__", .builtin "object.__class__")) from L3.andThen .now).andThen (Looks.tag .now)))
theorem exc_entry {s : Shared} {tk : Tok} {R : Result → Shared → Prop} (X : K.In s.heap) (J : ExcIs x C s.heap) (c : ExcCls K C) (q : R (.ok (.ret (.ref C))) s) :
    codeAny (model prog w) A (.call (.builtin "BaseException.__getattribute__") ⟨[.ref x, .str "__class__" tk], []⟩) R s := by
  obtain ⟨h0, g0, d0, t0, o0⟩ := s
  have LT := J.ty (M := model prog w)
  have LF := exc_find (M := model prog w) X J c
  have LB := looks_mroIn (M := model prog w) X c.mb
  refine codeAny_call_builtin PySem.F.attr_ValueError.ga.plain PySem.F.entry_bexc_ga ?_
  have hk : builtinKind "BaseException.__getattribute__" = some .slot := by decide +kernel
  have hsp : splitId "BaseException.__getattribute__" = some ("BaseException", "__getattribute__") := by decide +kernel
  have hao := PySem.F.args_bexc_ga (.ref x) (.str "__class__" tk)
  simp only [checkBuiltinCall, hk, hsp]
  refine wpAny_bind ?_
  unfold isInstance
  repeat (any_goals (first | assumption | with_reducible refine Looks.at (by assumption) ?_ | wp_step))
  refine exc_class_get X J c.mo ?_
  repeat (any_goals (first | assumption | wp_step))
theorem exc_attr {s : Shared} {Q : Option Value → Shared → Prop} (X : K.In s.heap) (J : ExcIs x C s.heap) (c : ExcCls K C) (q : Q (some (.ref C)) { s with toks := s.toks + 1 }) : wpAny (model prog w) A (getAttr? (.ref x) "__class__") Q E s := by
  obtain ⟨h0, g0, d0, t0, o0⟩ := s
  have LT := J.ty (M := model prog w)
  have L1 := looks_findIn (M := model prog w) X c.ga
  have L2 := looks_findIn (M := model prog w) X c.gn
  have f3 := PySem.F.attr_ValueError.ga.bind (.ref x)
  have hx2 : (Value.builtin "BaseException.__getattribute__" == Value.builtin "object.__getattribute__") = false := by decide +kernel
  have hx1 : (onTheHeap (Value.ref C) && Value.builtin "BaseException.__getattribute__" == Value.builtin "object.__getattribute__") = false := by rw [hx2]; rfl
  unfold getAttr? getAttrBy?
  repeat (any_goals (first | assumption | with_reducible refine Looks.at (by assumption) ?_ | wp_step))
  refine exc_entry X J c ?_
  repeat (any_goals (first | assumption | wp_step))
theorem exc_matches {s : Shared} {P : Addr} {Q : Bool → Shared → Prop} (X : K.In s.heap) (J : ExcIs x C s.heap) (c : ExcCls K P) (hm : mroIn K C (.ref P) = some true) (q : Q true s) : wpAny (model prog w) A (excMatches (.ref x) (.ref P)) Q E s := by
  obtain ⟨h0, g0, d0, t0, o0⟩ := s
  have LT := J.ty (M := model prog w)
  have LP := looks_typeIn (M := model prog w) X c.ty
  have LM := looks_mroIn (M := model prog w) X hm
  have LB := looks_mroIn (M := model prog w) X c.mb
  have LI : Looks (model prog w) h0 (isType (.ref P)) true := by
    obtain ⟨cd, hc⟩ := Option.isSome_iff_exists.mp c.cl
    unfold clsIn at hc
    split at hc
    · rename_i a1 a2 a3 a4 ho
      intro A' Q' E' s' k z
      unfold isType loadHead
      exact wpAny_bind (wpAny_loadPart (k _ _ (X _ _ ho)) (wpAny_pure z))
    · cases hc
  have LN : Looks (model prog w) h0 (isSubtype (.type "type") (.type "tuple")) false := Looks.of_pure tc_notTuple
  unfold excMatches isInstance isExcClass
  repeat lk
  exact q
theorem kitx_exc (c : ExcCls K C) : KitX K (.ref x) (.ref C) (ExcIs x C) where
  ty := fun _ _ _ J => J.ty
  it := fun M h X _ => by
    obtain ⟨cd, hc⟩ := Option.isSome_iff_exists.mp c.cl
    unfold clsIn at hc
    split at hc
    · rename_i a1 a2 a3 a4 ho
      intro A' Q' E' s' k z
      unfold isType loadHead
      exact wpAny_bind (wpAny_loadPart (k _ _ (X _ _ ho)) (wpAny_pure z))
    · cases hc
  ne := fun h tp dd its n sl X htp => by
    obtain ⟨cd, hc⟩ := Option.isSome_iff_exists.mp c.cl
    refine Bool.eq_false_iff.mpr fun q => ?_
    obtain rfl : C = tp := Value.ref.inj (beq_iff_eq.mp q)
    unfold clsIn at hc
    split at hc
    · rename_i a1 a2 a3 a4 ho
      have z := (X _ _ ho).symm.trans htp
      cases z
    · cases hc
  ca := fun X J k => exc_attr X J c k
end
end L2
set_option Elab.async false
set_option linter.all false
set_option maxRecDepth 100000
namespace L2
open PySem PySem.Spec PyProof.Rows PySem.W
structure FlyIn (X : Cx) (pins : List (Addr × Obj)) (h : Heap) (H : Hp) (C ea T : Addr) : Prop where
  ob : ∃ (oe : Obj) (vs : Array Value) (a0 : Value) (oT : Obj) (ts : Array Value), h.get? ea = some oe ∧ oe.cls = .ref C ∧ oe.data = .fields vs ∧ vs[0]? = some a0 ∧ vs[1]? = some (.ref T) ∧ h.get? T = some oT ∧ oT.data = .fields ts ∧ ts[3]? = some .none
  ne : T ≠ ea
  fe : H ea = none
  fT : H T = none
  s0 : X.s₀.heap.get? ea = none ∧ X.s₀.heap.get? T = none
  lo : X.env.locals ≠ ea ∧ X.env.locals ≠ T
  ce : ∀ x c, X.env.cells.lookup x = some c → c ≠ ea ∧ c ≠ T
  pi : ∀ p ∈ X.pn ++ pins, p.1 ≠ ea ∧ p.1 ≠ T
theorem Inv.exc {X : Cx} {pins : List (Addr × Obj)} {σ : St} {H : Hp} {s : Shared} {h' : Heap} {C ea T : Addr} (I : Inv X pins σ H s) (f : FlyIn X pins s.heap H C ea T)
    (k1 : ∀ b o, b ∉ frs X.stack → b ≠ ea → b ≠ T → s.heap.get? b = some o → h'.get? b = some o) (k2 : ∀ b o, b ∈ frs X.stack → s.heap.get? b = some o → ∃ sl, h'.get? b = some { o with slots := sl }) :
    Inv X pins σ H { s with heap := h' } := by
  have old : ∀ b o, X.s₀.heap.get? b = some o → b ≠ ea ∧ b ≠ T ∧ b ≠ X.env.locals := fun b o e =>
    ⟨(fun z => by rw [z, f.s0.1] at e; cases e), (fun z => by rw [z, f.s0.2] at e; cases e), Nat.ne_of_lt (Nat.lt_of_lt_of_le (Heap.lt_size e) I.ok.above)⟩
  have nst : ∀ b, b ≠ X.env.locals → b ∉ X.fs → b ∉ frs X.stack := fun b n1 n2 m => (List.mem_cons.mp (I.stkSub b m)).elim n1 n2
  have sst : ∀ b, b ∈ X.fs → b ∈ frs X.stack := fun b m => by
    rcases I.ok.stk with e | ⟨e, hf⟩
    · rw [e]; exact m
    · rw [e]
      unfold frs
      rw [List.filterMap_cons, hf]
      exact List.mem_cons_of_mem _ m
  have any : ∀ b o, b ≠ ea → b ≠ T → s.heap.get? b = some o → ∃ sl, h'.get? b = some { o with slots := sl } := fun b o n1 n2 e => by
    by_cases hb : b ∈ frs X.stack
    · exact k2 b o hb e
    · exact ⟨o.slots, k1 b o hb n1 n2 e⟩
  have cellK : ∀ x c, X.env.cells.lookup x = some c → ∀ v, s.heap.IsCell c v → h'.IsCell c v := fun x c e v ⟨o, ho, hd⟩ => by
    obtain ⟨sl, z⟩ := any c o (f.ce x c e).1 (f.ce x c e).2 ho
    exact ⟨_, z, hd⟩
  refine ⟨I.ok, I.os, I.bare, ⟨fun b o e n hb hx => ?_, fun b o e n hb hx => ?_, I.base.free, fun b o e hx => ?_, I.base.tups, I.base.frzs, I.base.tbls⟩, ?_, fun x c e => ?_, I.free, I.freeC, fun p hp => ?_, fun a o z => ?_, I.len⟩
  · obtain ⟨n1, n2, n3⟩ := old b o e
    exact k1 b o (nst b n3 hb) n1 n2 (I.base.keep b o e n hb hx)
  · obtain ⟨sl, z⟩ := I.base.slot b o e n hb hx
    obtain ⟨sl', z'⟩ := k2 b _ (sst b hb) z
    exact ⟨sl', z'⟩
  · obtain ⟨o', z⟩ := I.base.there b o e hx
    obtain ⟨n1, n2, n3⟩ := old b o e
    obtain ⟨sl, z'⟩ := any b o' n1 n2 z
    exact ⟨_, z'⟩
  · obtain ⟨m, ⟨o, es, ep, ho, hd, r⟩, hl⟩ := I.loc
    obtain ⟨sl, z⟩ := any _ o f.lo.1 f.lo.2 ho
    refine ⟨m, ⟨_, es, ep, z, hd, r⟩, fun i x v e1 e2 e3 => ?_⟩
    obtain ⟨u, ru, l⟩ := hl i x v e1 e2 e3
    refine ⟨u, ru, ?_⟩
    rcases l with l | ⟨k, c, e, y⟩
    · exact .inl l
    · exact .inr ⟨k, c, e, cellK x c e _ y⟩
  · obtain ⟨v, y⟩ := I.cell x c e
    exact ⟨v, cellK x c e v y⟩
  · obtain ⟨e, n, n1, n2, d⟩ := I.pin p hp
    exact ⟨k1 p.1 p.2 (nst p.1 n1 n2) (f.pi p hp).1 (f.pi p hp).2 e, n, n1, n2, d⟩
  · refine (I.hok a o z).stay (fun b u hb r => ?_) (fun _ y => y) fun _ _ y => y
    have hb' : ∃ u', H b = some u' := by
      rcases hb with rfl | hb
      · exact ⟨_, z⟩
      · exact ⟨_, hb⟩
    obtain ⟨u', hb'⟩ := hb'
    refine k1 b u (fun m => ?_) (fun y => ?_) (fun y => ?_) r
    · rw [I.stkFree b m] at hb'; cases hb'
    · rw [y, f.fe] at hb'; cases hb'
    · rw [y, f.fT] at hb'; cases hb'
def Cx.tr (X : Cx) (pl : List (Addr × Obj)) (Ec : Addr → St → Hp → Prop) : Cx :=
  { X with pn := X.pn ++ pl, xe := fun e s' => ∃ ea T C σ H, e = .ref ea ∧ Inv X pl σ H s' ∧ FlyIn X pl s'.heap H C ea T ∧ Ec C σ H }
theorem Inv.tr {X : Cx} {pl : List (Addr × Obj)} {σ : St} {H : Hp} {s : Shared} (I : Inv X pl σ H s) (Ec : Addr → St → Hp → Prop) : Inv (X.tr pl Ec) [] σ H s :=
  ⟨⟨I.ok.mod, I.ok.kind, I.ok.glob, I.ok.blt, I.ok.above, I.ok.inj, I.ok.has, I.ok.cab, I.ok.hd, I.ok.frames, I.ok.stk, I.ok.exf, I.ok.bs, I.ok.bsz, I.ok.noex, I.ok.exfs, I.ok.funs, I.ok.frf⟩, I.os, I.bare, I.base, I.loc, I.cell, I.free, I.freeC,
    fun p hp => I.pin p (by simpa [Cx.tr] using hp), I.hok, I.len⟩
theorem Inv.untr {X : Cx} {pl pins : List (Addr × Obj)} {σ : St} {H : Hp} {s : Shared} {Ec : Addr → St → Hp → Prop} (I : Inv (X.tr pl Ec) pins σ H s) : Inv X pl σ H s :=
  ⟨⟨I.ok.mod, I.ok.kind, I.ok.glob, I.ok.blt, I.ok.above, I.ok.inj, I.ok.has, I.ok.cab, I.ok.hd, I.ok.frames, I.ok.stk, I.ok.exf, I.ok.bs, I.ok.bsz, I.ok.noex, I.ok.exfs, I.ok.funs, I.ok.frf⟩, I.os, I.bare, I.base, I.loc, I.cell, I.free, I.freeC,
    fun p hp => I.pin p (List.mem_append_left _ hp), I.hok, I.len⟩
def tCallX (sp : Sp) (dvs : List V) (Ec : Addr → St → Hp → Prop) (t : TA) : TE := fun σ H Q => t σ H fun vs H1 => sp (vs ++ dvs) H1 Q fun c _ H2 => ∃ C, c = .ref C ∧ Ec C σ H2
theorem pe_callX {X : Cx} {pl : List (Addr × Obj)} {Ec : Addr → St → Hp → Prop} {k : Nat} {f : Addr} {fd : FuncData} {ps : List Str} {sp : Sp} {dvs : List V} {ds : List Value} {x : Str} {p pos : Pos} {e : Expr} {es : List Expr} {t : TA}
    (F : FnOk X.prog X.w X.K X.mg X.base (CXE X.prog X.w) k f fd ps sp) (hr : Room k X.A) (hg : Gl X x) (hm : X.mg x = some (.ref f)) (hk : PySem.W.keepIn X.K (.ref f) = true) (hb : Binds X.K fd ps ds) (hd : Vals dvs ds) (hex : X.ex = [])
    (ha : PA (X.tr pl Ec) (e :: es) t) (hdb : (x == ("__debug__" : Str)) = false := by decide) (he : starEach (e :: es) X.env = (false, eval e X.env) :: starEach es X.env := by rfl) (hpl : (backTo pos (starEach es X.env)).any (·.1) = false := by rfl) :
    PE (X.tr pl Ec) (.Call (.Name x p) (e :: es) [] pos) (tCallX sp dvs Ec t) := by
  intro pins s σ H Q I h
  refine wpAny_Call_Name_kw (ld_glob (X := X.tr pl Ec) I hg hm ?_ hdb)
  refine PySem.W.callWith_K (h₀ := X.base) I.ok.mod.kin hk (thn (ha pos pins s σ H _ I h) fun us s1 ⟨vs, H1, I1, r, q⟩ => ⟨I1.kIn, ?_⟩) he hpl
  have r2 : Vals (vs ++ dvs) (us ++ ds) := r.append hd
  have hl : (us ++ ds).length = ps.length := by rw [← r2.length]; exact F.len _ _ _ _ q
  refine wpAny_call (codeAny_mono (F.run X.A X.stack s1 H1 ⟨us, []⟩ (us ++ ds) (vs ++ dvs) Q _ hr I1.env0 (hb s1 us I1.kIn hl) r2 q) fun r s' hq => ?_)
  cases r with
  | ok fl =>
    cases fl with
    | ret u => exact I1.after hq
    | next => exact False.elim hq
    | brk => exact False.elim hq
    | cont => exact False.elim hq
  | error e' =>
    obtain ⟨ea, T, C, H', rfl, os, bare, un, hok, fl, C', eC, z⟩ := hq
    cases eC
    have I2 : Inv (X.tr pl Ec) pins σ H' s' := I1.call' (ch := []) os un hok bare (fun b z => nomatch z)
    have lo : ∀ b o, s1.heap.get? b = some o → b ≠ ea ∧ b ≠ T := fun b o e => ⟨(fun y => by rw [y, fl.ne0] at e; cases e), (fun y => by rw [y, fl.nT0] at e; cases e)⟩
    have s0n : ∀ b, s1.heap.get? b = none → X.s₀.heap.get? b = none := fun b e => by
      cases y : X.s₀.heap.get? b with
      | none => rfl
      | some o =>
        obtain ⟨o', y'⟩ := I1.base.there b o y (by show b ∉ X.ex; rw [hex]; exact fun z => nomatch z)
        rw [e] at y'
        cases y'
    refine ⟨ea, T, C, σ, H', rfl, I2.untr, ⟨fl.ob, fl.ne, fl.fe, fl.fT, ⟨s0n _ fl.ne0, s0n _ fl.nT0⟩, ?_, fun x c e => ?_, fun p hp => ?_⟩, z⟩
    · obtain ⟨m, ⟨o, _, _, ho, _⟩, _⟩ := I1.loc
      exact lo _ o ho
    · obtain ⟨v, o, ho, _⟩ := I1.cell x c e
      exact lo c o ho
    · exact lo _ _ (I1.pin p (List.mem_append_left _ hp)).1
def Cx.su (X : Cx) (e : Value) : Cx := { X with A := X.A.mark (some e), calm := false, xe := fun _ _ => False }
theorem Inv.su {X : Cx} {pins : List (Addr × Obj)} {σ : St} {H : Hp} {s : Shared} (I : Inv X pins σ H s) (e : Value) : Inv (X.su e) pins σ H s :=
  ⟨⟨I.ok.mod, I.ok.kind, I.ok.glob, I.ok.blt, I.ok.above, I.ok.inj, I.ok.has, I.ok.cab, (fun z => nomatch z), I.ok.frames, I.ok.stk, I.ok.exf, I.ok.bs, I.ok.bsz, I.ok.noex, I.ok.exfs, I.ok.funs, I.ok.frf⟩, I.os, I.bare, I.base, I.loc, I.cell, I.free, I.freeC, I.pin, I.hok, I.len⟩
theorem Inv.unsu {X : Cx} {pins : List (Addr × Obj)} {σ : St} {H : Hp} {s : Shared} {e : Value} (ok : X.Ok) (I : Inv (X.su e) pins σ H s) : Inv X pins σ H s :=
  ⟨ok, I.os, I.bare, I.base, I.loc, I.cell, I.free, I.freeC, I.pin, I.hok, I.len⟩
theorem Inv.unname {X : Cx} {pins : List (Addr × Obj)} {σ : St} {H : Hp} {s : Shared} {h' : Heap} {t' : Nat} {i : Nat} {n : Str} {v : Option Value} {m : Str → Option Value} (I : Inv X pins σ H s) (hN : X.N.Nodup) (hi : X.N[i]? = some n)
    (hn : s.heap.Ns X.env.locals m) (hl : ∀ (j : Nat) (x : Str) (w : V), X.N[j]? = some x → σ[j]? = some (some w) → Vis X.env.scope x → ∃ u, RelV w u ∧ Look X.env s.heap m x u) (hn' : h'.Ns X.env.locals fun y => if y = n then v else m y)
    (hs : Heap.SameBut X.env.locals s.heap h') : Inv X pins (σ.set i none) H { s with heap := h', toks := t' } := by
  have old : ∀ b o, X.s₀.heap.get? b = some o → b ≠ X.env.locals := fun b o e => Nat.ne_of_lt (Nat.lt_of_lt_of_le (Heap.lt_size e) I.ok.above)
  refine ⟨I.ok, I.os, I.bare, ⟨fun b o e n hb hx => (hs.2 b (old b o e)).trans (I.base.keep b o e n hb hx), fun b o e n hb hx => ?_, I.base.free, fun b o e hx => ?_, I.base.tups, I.base.frzs, I.base.tbls⟩, ⟨_, hn', fun j y w e1 e2 e3 => ?_⟩, fun y c e => ?_, I.free, I.freeC, fun p hp => ?_, fun b ob e => ?_, by simpa using I.len⟩
  · obtain ⟨sl, z⟩ := I.base.slot b o e n hb hx
    exact ⟨sl, (hs.2 b (old b o e)).trans z⟩
  · obtain ⟨o', z⟩ := I.base.there b o e hx
    exact ⟨o', (hs.2 b (old b o e)).trans z⟩
  · by_cases hj : j = i
    · subst hj
      rw [List.getElem?_set] at e2
      split at e2
      · split at e2 <;> cases e2
      · exact absurd rfl (by assumption)
    · rw [List.getElem?_set_ne (Ne.symm hj)] at e2
      obtain ⟨u, ru, l⟩ := hl j y w e1 e2 e3
      have yn : y ≠ n := fun z => hj (nodup_ix hN e1 (z ▸ hi))
      refine ⟨u, ru, ?_⟩
      rcases l with ⟨k, z⟩ | ⟨k, c, e, z⟩
      · exact .inl ⟨k, by show (if y = n then v else m y) = some u; rw [if_neg yn]; exact z⟩
      · exact .inr ⟨k, c, e, z.sameBut hs (I.cne y c e)⟩
  · obtain ⟨w, z⟩ := I.cell y c e
    exact ⟨w, z.sameBut hs (I.cne y c e)⟩
  · obtain ⟨e, a, b, c, d⟩ := I.pin p hp
    exact ⟨(hs.2 p.1 b).trans e, a, b, c, d⟩
  · refine (I.hok b ob e).stay (fun c w hc q => (hs.2 c ?_).trans q) (fun _ q => q) fun _ _ q => q
    intro z
    rcases hc with rfl | hc
    · rw [z, I.free] at e; cases e
    · rw [z, I.free] at hc; cases hc
def tTry (i : Nat) (CP : Addr → Prop) (tb : (Addr → St → Hp → Prop) → TS) (ts : TS) : TS := fun D σ H =>
  tb (fun C σ1 H1 => CP C ∧ ∀ ea, H1 ea = none → ts { nx := fun σ2 H2 => D.nx (σ2.set i none) H2, rt := D.rt, bk := fun σ2 H2 => D.bk (σ2.set i none) H2, ct := fun σ2 H2 => D.ct (σ2.set i none) H2 } (σ1.set i (some (.ref ea))) (upd H1 ea (.ext (ExcIs ea C)))) D σ H
theorem SP.untr {X : Cx} {pl pins : List (Addr × Obj)} {Ec : Addr → St → Hp → Prop} {D : Ends} {f : Flow} {s' : Shared} (h : SP (X.tr pl Ec) pins D f s') : SP X pl D f s' := by
  cases f with
  | next => obtain ⟨σ', H', I, q⟩ := h; exact ⟨σ', H', I.untr, q⟩
  | brk => obtain ⟨σ', H', I, q⟩ := h; exact ⟨σ', H', I.untr, q⟩
  | cont => obtain ⟨σ', H', I, q⟩ := h; exact ⟨σ', H', I.untr, q⟩
  | ret u => obtain ⟨v, σ', H', I, r, q⟩ := h; exact ⟨v, σ', H', I.untr, r, q⟩
theorem ps_try {X : Cx} {i : Nat} {n x : Str} {P : Addr} {body : List Stmt} {b₀ : Stmt} {suite : List Stmt} {tb : (Addr → St → Hp → Prop) → TS} {ts : TS} {np hpos pos : Pos} (hst : X.stack = X.env :: X.outer) (hf : X.env.frame = some X.env.locals)
    (hN : X.N.Nodup) (hi : X.N[i]? = some n) (hlo : X.env.scope.names.lookup n = some .local) (hg : Gl X x) (hm : X.mg x = some (.ref P)) (cP : ExcCls X.K P) (hb : ∀ pl Ec, PSs (X.tr pl Ec) body (tb Ec)) (hs : ∀ e, PSs (X.su e) (b₀ :: suite) ts)
    (hd : (x == ("__debug__" : Str)) = false := by decide) :
    PS X (.Try body [.ExceptHandler (some (.Name x np)) (some n) (b₀ :: suite) hpos] [] [] pos) (tTry i (fun C => mroIn X.K C (.ref P) = some true) tb ts) := by
  intro pins s σ H D I h
  refine wpAny_Try_except ?_
  have hB := hb pins _ [] s σ H D (I.tr _) h
  refine wpAny_mono hB (fun f s1 q => ?_) fun e s1 q => ?_
  · have q' := q.untr
    cases f with
    | next =>
      obtain ⟨σ', H', I', z⟩ := q'
      exact wpAny_execs_nil ⟨σ', H', I', z⟩
    | brk => exact q'
    | cont => exact q'
    | ret u => exact q'
  obtain ⟨ea, T, C, σ1, H1, rfl, I1, fly, hC, q⟩ := q
  obtain ⟨oe, vs, a0, oT, ts', e1, e2, e3, e4, e5, e6, e7, e8⟩ := fly.ob
  have frN : ∀ b ∈ frs X.stack, b ≠ ea ∧ b ≠ T := fun b hb => by
    obtain ⟨_, o, ho, hnf⟩ := I1.stack.mem hb
    exact ⟨(fun z => by rw [z, e1] at ho; cases ho; exact hnf vs e3), (fun z => by rw [z, e6] at ho; cases ho; exact hnf ts' e7)⟩
  -- the heap without the frames and the exception's records
  have ff : s1.heap.FunFrames (hideAll s1.heap (ea :: T :: frs X.stack)) X.stack := I1.hid _ fun b hb => List.mem_cons_of_mem _ (List.mem_cons_of_mem _ hb)
  have fl : Heap.FlyingW (hideAll s1.heap (ea :: T :: frs X.stack)) X.stack ea (.ref C) a0 s1.heap :=
    ⟨fun b o z => of_hideAll _ z, hideAll_none _ List.mem_cons_self, ff, oe, vs, T, oT, ts', e1, ⟨e2, e4⟩, e3, e5, hideAll_none _ (List.mem_cons_of_mem _ List.mem_cons_self), fly.ne, e6, e7, e8⟩
  have frA : X.A.frames = some (X.env :: X.outer) := by rw [← hst]; exact I.ok.frames
  have back : ∀ {h' : Heap}, Heap.StaysIn (hideAll s1.heap (ea :: T :: frs X.stack)) h' → s1.heap.UpToSlots h' → Inv X pins σ1 H1 { s1 with heap := h' } := fun {h'} st up => by
    refine I1.exc fly (fun b o n1 n2 n3 z => st b o (hideAll_get _ z ?_)) fun b o n1 z => ?_
    · intro m
      rcases List.mem_cons.mp m with m | m
      · exact n2 m
      · rcases List.mem_cons.mp m with m | m
        · exact n3 m
        · exact n1 m
    · obtain ⟨_, o', ho, hnf⟩ := I1.stack.mem n1
      rw [z] at ho
      cases ho
      exact up b o z hnf
  rw [hst] at fl back
  refine wpAny_looks_onW frA hf fl fun h4 held4 up4 => ?_
  refine wpAny_landsW held4 fun h5 fl5 up5 => ?_
  have I5 : Inv X pins σ1 H1 { s1 with heap := h5 } := back fl5.1 (up4.trans up5)
  have J5 : ExcIs ea C h5 := by
    obtain ⟨o, z1, z2⟩ := fl5.there
    exact ⟨o, z1, z2⟩
  refine wpAny_handleBy_cons (codeAny_handlers_test (ld_glob (X := X.su (.ref ea)) (I5.su _) hg hm ?_ hd)) (by intro z; cases z)
  refine exc_matches (K := X.K) (P := P) I5.kIn J5 cP hC ?_
  refine codeAny_handlers_suite_as ?_
  refine lands_againW fl5 fun h6 fl6 up6 => ?_
  have I6 : Inv X pins σ1 H1 { s1 with heap := h6 } := back fl6.1 ((up4.trans up5).trans up6)
  have J6 : ExcIs ea C h6 := by
    obtain ⟨o, z1, z2⟩ := fl6.there
    exact ⟨o, z1, z2⟩
  have I7 : Inv X pins σ1 (upd H1 ea (.ext (ExcIs ea C))) { s1 with heap := h6 } := I6.track fly.fe fly.s0.1 fly.lo.1.symm (fun x c e => (fly.ce x c e).1) (fun p hp => (fly.pi p hp).1) J6.ok
  refine store_ok (X := X.su (.ref ea)) (I7.su _) hN hi (Or.inl hlo) (v := .ref ea) rfl (fun s8 I8 => ?_) (Or.inr hlo)
  refine wpAny_mono (hs _ pins s8 _ _ _ I8 (q ea fly.fe)) (fun f s9 q9 => ?_) fun _ _ z => False.elim z
  have hcls : (X.env.scope.kind == .class || (X.env.scope.kind == .module && X.env.locals != X.env.globals)) = false := by rw [I.ok.kind]; rfl
  have fin : ∀ {σ9 : St} {H9 : Hp} {R : Unit → Shared → Prop}, Inv (X.su (.ref ea)) pins σ9 H9 s9 → (∀ s10, Inv X pins (σ9.set i none) H9 s10 → R () s10) →
      wpAny (model X.prog X.w) X.A (do bindName X.env n .none; unbindBehindTheSuite X.env n hpos) R X.xe s9 := fun {σ9 H9 R} I9 k => by
    obtain ⟨m, hn, hl⟩ := I9.loc
    exact wpAny_nameGoes_keeps hlo hn hcls fun h' v hn' hs' => k _ ((I9.unsu I.ok).unname hN hi hn hl hn' hs')
  cases f with
  | next =>
    obtain ⟨σ9, H9, I9, z⟩ := q9
    exact fin I9 fun s10 I10 => ⟨_, H9, I10, z⟩
  | brk =>
    obtain ⟨σ9, H9, I9, z⟩ := q9
    exact fin I9 fun s10 I10 => ⟨_, H9, I10, z⟩
  | cont =>
    obtain ⟨σ9, H9, I9, z⟩ := q9
    exact fin I9 fun s10 I10 => ⟨_, H9, I10, z⟩
  | ret u =>
    obtain ⟨v, σ9, H9, I9, r, z⟩ := q9
    exact fin I9 fun s10 I10 => ⟨v, _, H9, I10, r, z⟩
end L2
set_option Elab.async false
set_option linter.all false
set_option maxRecDepth 100000
namespace L2
open PySem PySem.Spec PyProof.Rows
end L2
set_option Elab.async false
set_option linter.all false
set_option maxRecDepth 100000
namespace L2
open PySem PySem.Spec PyProof.Rows
def Evl (t : TE) (σ : St) (H : Hp) (v : V) : Prop := ∀ Q : VK, Q v H → t σ H Q
def Tst (t : TT) (σ : St) (H : Hp) (p : Prop) [Decidable p] : Prop := ∀ Q : Bool → Hp → Prop, Q (decide p) H → t σ H Q
section
variable {σ : St} {H : Hp} {ta tb tc : TE} {x y v : V} {i j k : Int} {K : PySem.W.Frag} {D : Ends} {n m : Nat}
theorem evl_var {i : Nat} (h : σ[i]? = some (some v)) : Evl (tVar i) σ H v := fun Q q => ⟨v, h, q⟩
theorem evl_c : Evl (tC v) σ H v := fun Q q => q
theorem evl_I0 {g : Int → Int → V} (a : Evl ta σ H (.int i)) (b : Evl tb σ H (.int j)) : Evl (tOp (rI0 g) ta tb) σ H (g i j) := fun Q q => a _ (b _ ⟨i, j, rfl, rfl, q⟩)
theorem evl_I {C : Int → Int → Prop} {g : Int → Int → V} (a : Evl ta σ H (.int i)) (b : Evl tb σ H (.int j)) (c : C i j) : Evl (tOp (rI C g) ta tb) σ H (g i j) := fun Q q => a _ (b _ ⟨i, j, rfl, rfl, c, q⟩)
theorem evl_eqI (a : Evl ta σ H (.int i)) (b : Evl tb σ H (.int j)) : Evl (tOp rEq ta tb) σ H (.bl (decide (i = j))) := fun Q q => a _ (b _ ⟨rfl, by
  have e : decide (V.int i = V.int j) = decide (i = j) := by
    rw [decide_eq_decide]
    exact ⟨fun z => V.int.inj z, fun z => by rw [z]⟩
  rw [e]
  exact q⟩)
theorem evl_ixL {p : Addr} {xs : List V} (a : Evl ta σ H (.ref p)) (b : Evl tb σ H (.int i)) (h : SqL K H p xs) (e : atI xs i = some v) : Evl (tOp (rIxL K) ta tb) σ H v := fun Q q => a _ (b _ ⟨p, xs, i, v, rfl, rfl, h, e, q⟩)
theorem evl_lenL {p : Addr} {ys : List V} (a : Evl ta σ H (.ref p)) (h : SqL K H p ys) : Evl (tCB (fun xs H Q => ∃ p ys, xs = [.ref p] ∧ (SqL K H p ys ∨ SqT K H p ys) ∧ Q (.int ys.length) H) (tCons ta tNil)) σ H (.int ys.length) := fun Q q => a _ ⟨p, ys, rfl, .inl h, q⟩
theorem tst_of {p : Prop} [Decidable p] (a : Evl ta σ H (.bl (decide p))) : Tst (tTest ta) σ H p := fun Q q => a _ ⟨_, rfl, q⟩
theorem tst_if {t : TT} {a b : TS} {p : Prop} [Decidable p] (h : Tst t σ H p) (h1 : p → a D σ H) (h2 : ¬ p → b D σ H) : tIfS t a b D σ H := h _ (by
  by_cases c : p
  · rw [decide_eq_true c, if_pos rfl]; exact h1 c
  · rw [decide_eq_false c, if_neg Bool.false_ne_true]; exact h2 c)
theorem seq_if {t : TT} {a b u : TS} {p : Prop} [Decidable p] (h : Tst t σ H p) (h1 : p → a { D with nx := u D } σ H) (h2 : ¬ p → b { D with nx := u D } σ H) : tSeq (tIfS t a b) u D σ H := tst_if h h1 h2
theorem run_asg {i : Nat} (h : Evl ta σ H v) (q : D.nx (σ.set i (some v)) H) : tAsg ta (gName i) D σ H := h _ q
theorem seq_asg {i : Nat} {u : TS} (h : Evl ta σ H v) (q : u D (σ.set i (some v)) H) : tSeq (tAsg ta (gName i)) u D σ H := h _ q
theorem run_ret (h : Evl ta σ H v) (q : D.rt v H) : tRet ta D σ H := h _ q
theorem run_next (h : D.nx σ H) : tNext D σ H := h
theorem run_seq {t u : TS} (h : t { D with nx := u D } σ H) : tSeq t u D σ H := h
end
end L2
set_option Elab.async false
set_option linter.all false
set_option maxRecDepth 100000
namespace L2
open PySem PySem.Spec PyProof.Rows PySem.W
inductive TyX (K : Frag) (H : Hp) : V → Value → Prop where
  | of {x : V} {t : Value} (h : TyOf K H x t) : TyX K H x t
  | exc {ea C : Addr} (e : H ea = some (.ext (ExcIs ea C))) (c : ExcCls K C) : TyX K H (.ref ea) (.ref C)
def clsV : V → Value
  | .ref a => .ref a
  | .ty n => .type n
  | _ => .none
def isCls : V → Bool
  | .ref _ => true
  | .ty _ => true
  | _ => false
theorem clsV_rel : ∀ {c : V} {u : Value}, isCls c = true → RelV c u → u = clsV c
  | .ref _, _, _, r => r
  | .ty _, _, _, r => r
theorem clsV_all : ∀ {cs : List V} {us : List Value}, cs.all isCls = true → Vals cs us → us = cs.map clsV
  | _, _, _, .nil => rfl
  | c :: cs, u :: us, h, .cons r t => by
    rw [List.all_cons, Bool.and_eq_true] at h
    rw [clsV_rel h.1 r, clsV_all h.2 t]
    rfl
section
variable {X : Cx}
theorem tyx_kit {pins : List (Addr × Obj)} {σ : St} {H : Hp} {s : Shared} {x : V} {u t : Value} (I : Inv X pins σ H s) (rx : RelV x u) (ty : TyX X.K H x t) : ∃ J, KitX X.K u t J ∧ J s.heap ∧ u ≠ .builtin "__main__.__loader__#opaque" := by
  cases ty with
  | exc e c =>
    cases (show u = Value.ref _ from rx)
    obtain ⟨J, _⟩ := I.hok _ _ e
    exact ⟨_, kitx_exc c, J, fun z => nomatch z⟩
  | of ty =>
    cases ty with
    | non => cases (show u = Value.none from rx); exact ⟨_, kitx_none, True.intro, fun z => nomatch z⟩
    | bl y => cases (show u = Value.bool y from rx); exact ⟨_, kitx_bool, True.intro, fun z => nomatch z⟩
    | int i => obtain ⟨t, q⟩ := (show ∃ t, u = Value.int i t from rx); cases q; exact ⟨_, kitx_int, True.intro, fun z => nomatch z⟩
    | str y => obtain ⟨t, q⟩ := (show ∃ t, u = Value.str y t from rx); cases q; exact ⟨_, kitx_str, True.intro, fun z => nomatch z⟩
    | flt y => obtain ⟨t, q⟩ := (show ∃ t, u = Value.float y t from rx); cases q; exact ⟨_, kitx_float, True.intro, fun z => nomatch z⟩
    | @lst a xs ea =>
      cases (show u = Value.ref a from rx)
      obtain ⟨_, _, n, _, h1⟩ := (show ObjOk X.prog X.w H s.heap a (.lst xs) from I.hok a _ ea)
      exact ⟨_, kitx_list, ⟨_, h1, rfl⟩, fun z => nomatch z⟩
    | @frz a ob xs ea =>
      cases (show u = Value.ref a from rx)
      obtain ⟨_, _, _, n, _, h1⟩ := (show ObjOk X.prog X.w H s.heap a (.frz ob (.lst xs)) from I.hok a _ ea)
      exact ⟨_, kitx_list, ⟨_, h1, rfl⟩, fun z => nomatch z⟩
    | @tup a xs ea =>
      cases (show u = Value.ref a from rx)
      obtain ⟨_, _, _, p⟩ := (show ObjOk X.prog X.w H s.heap a (.tup xs) from I.hok a _ ea)
      obtain ⟨o, h1, h2, _⟩ := p
      exact ⟨_, kitx_tuple, ⟨o, h1, h2⟩, fun z => nomatch z⟩
    | @dK a kvs ea =>
      cases (show u = Value.ref a from rx)
      obtain ⟨_, _, vs, _, p⟩ := (show ObjOk X.prog X.w H s.heap a (.dK kvs) from I.hok a _ ea)
      obtain ⟨o, es, ep, h1, h2, _⟩ := p
      exact ⟨_, kitx_dict, ⟨o, h1, h2.1⟩, fun z => nomatch z⟩
    | @dT a kvs ea =>
      cases (show u = Value.ref a from rx)
      obtain ⟨_, _, xs, _, o, es, ep, h1, h2, _⟩ := (show ObjOk X.prog X.w H s.heap a (.dT kvs) from I.hok a _ ea)
      exact ⟨_, kitx_dict, ⟨o, h1, h2.1⟩, fun z => nomatch z⟩
    | @ins a C dx fs ea cl ha hn htk hm =>
      cases (show u = Value.ref a from rx)
      obtain ⟨mA, O, _⟩ := ins_get I.hok ea
      obtain ⟨od, J, _⟩ := O.look
      exact ⟨_, kitx_own (cl.get _) cl.hd ha hn htk hm, J, fun z => nomatch z⟩
theorem call_isi : CallR X (.builtin "isinstance") (fun xs H Q => ∃ x c t b, xs = [x, c] ∧ isCls c = true ∧ TyX X.K H x t ∧ kitOne X.K t (clsV c) = some b ∧ Q (.bl b) H) := by
  intro pins s σ H xs us Q I r h
  obtain ⟨x, c, t, b, rfl, hc, ty, e, q⟩ := h
  obtain ⟨u, v, rfl, r1, r2⟩ := vals2 r
  rw [clsV_rel hc r2]
  obtain ⟨J, Z, hJ, hx⟩ := tyx_kit I r1 ty
  exact kia_one Z I.kIn hJ e hx fun tk => ⟨.bl b, H, I.tok tk, rfl, q⟩
theorem call_isiT : CallR X (.builtin "isinstance") (fun xs H Q => ∃ x p cs t b, xs = [x, .ref p] ∧ SqT X.K H p cs ∧ cs.all isCls = true ∧ TyX X.K H x t ∧ kitAny X.K t (cs.map clsV) = some b ∧ Q (.bl b) H) := by
  intro pins s σ H xs us Q I r h
  obtain ⟨x, p, cs, t, b, rfl, hp, hc, ty, e, q⟩ := h
  obtain ⟨u, v, rfl, r1, r2⟩ := vals2 r
  cases (show v = Value.ref p from r2)
  obtain ⟨J, Z, hJ, hx⟩ := tyx_kit I r1 ty
  obtain ⟨its, r', pl, hz⟩ := I.tuple hp
  rw [← clsV_all hc r'] at e
  obtain ⟨⟨oc, od, dt, sl⟩, h1, h2, n, h3⟩ := (show s.heap.IsTuple p its.toArray from pl)
  have h2 : oc = .type "tuple" := h2
  have h3 : dt = .seq its.toArray n := h3
  subst h2 h3
  exact kia_tup Z I.kIn hJ h1 e hx fun tk => ⟨.bl b, H, I.tok tk, rfl, q⟩
end
end L2
set_option Elab.async false
set_option linter.all false
set_option maxRecDepth 100000
namespace L2
open PySem PySem.Spec PyProof.Rows PySem.W
end L2
set_option Elab.async false
set_option linter.all false
set_option maxRecDepth 100000
namespace L2
open PySem PySem.Spec PyProof.Rows
def ItE (K : PySem.W.Frag) (a : Addr) : It :=
  ⟨fun i H => ∃ xs x, SqL K H a xs ∧ xs[i]? = some x, fun i H x H' => ∃ p y, H p = none ∧ x = .ref p ∧ H' = upd H p (.tup [.int i, y]) ∧ ∀ xs, SqL K H a xs → xs[i]? = some y, fun i H => ∃ xs, SqL K H a xs ∧ xs.length ≤ i⟩
theorem turn_enumL {P : Program} {w : World} {K : PySem.W.Frag} {elts : List Expr} {kx : Nat} {px : Pos} (a e it : Addr) (hei : e ≠ it) :
    Turn P w K (.Tuple elts kx px) (ItE K a) [e, it] e (fun i h => (∃ old, IsEnum h e it (i : Nat) old) ∧ h.IsListIter it a i) where
  mem := by simp
  obj := fun i h st b hb => by
    obtain ⟨⟨old, he⟩, ⟨o, ho, c, d⟩⟩ := st
    rcases List.mem_cons.mp hb with rfl | hb
    · exact ⟨_, he, fun v z => by
        have z' : Data.fields _ = Data.cell v := z
        cases z'⟩
    · obtain rfl := List.mem_singleton.mp hb
      exact ⟨o, ho, fun v z => by rw [d] at z; cases z⟩
  keep := fun i h h' st k => ⟨let ⟨old, he⟩ := st.1; ⟨old, k e (by simp) _ he⟩, st.2.at fun o q => k it (by simp) o q⟩
  item := by
    intro X hP hw hK hc i pins s σ H E I hf st hg
    subst hP hw hK
    obtain ⟨⟨old, he⟩, hit⟩ := st
    obtain ⟨xs, x, hq, hx⟩ := hg
    obtain ⟨its, rv, tp, hz⟩ := I.list hq
    obtain ⟨u, hu, ru⟩ := rv.get hx
    have hil : i < xs.length := (List.getElem?_eq_some_iff.mp hx).1
    have tp' : s.heap.IsList a its.toArray := tp.isList
    have nai : a ≠ it := fun z => by
      obtain ⟨o, g1, g2, _⟩ := tp'
      obtain ⟨o', g1', g2', _⟩ := hit
      rw [z, g1'] at g1
      cases g1
      rw [g2'] at g2
      exact absurd g2 (by decide)
    have nae : a ≠ e := fun z => by
      obtain ⟨o, g1, g2, _⟩ := tp'
      rw [z, he] at g1
      cases g1
      have g3 : Value.type "enumerate" = Value.type "list" := g2
      exact absurd g3 (by decide)
    have D := Draws.list (prog := X.prog) (w := X.w) (A := X.A.in1) (by exact I.ok.hd hc) it a nai its.toArray
    refine wpAny_pyNext_enum_itemD D he ⟨hit, tp'⟩ (by rw [List.size_toArray, ← rv.length]; exact hil) hei (by simp [hei, nae.symm]) fun y h' tk hP ho hs' hT hsz hk => ?_
    have ey : y = u := by
      rw [List.getElem?_toArray, hu] at hP
      exact (Option.some.inj hP).symm
    subst ey
    refine ⟨_, rfl, wpAny_letOwnedTupleGo_enum ho fun h2 he2 hs2 => ?_⟩
    have ne1 : s.heap.objs.size ≠ e := Nat.ne_of_gt (Heap.lt_size he)
    have k2 : ∀ b o, b ≠ e → b ≠ it → s.heap.get? b = some o → h2.get? b = some o := fun b o n1 n2 q => (hs2.2 b n1).trans (hk b o n1 n2 q)
    have I1 : Inv X pins σ H { s with heap := h2, toks := tk + 1 } := I.turned2 k2 (hf e (by simp)) (hf it (by simp))
    have hn : H s.heap.objs.size = none := I.hok.fresh (Nat.le_refl _)
    have FP := I.fpOk (b := s.heap.objs.size) (Nat.le_refl _) hn
    have hT2 : h2.get? s.heap.objs.size = some { cls := .type "tuple", data := .seq #[.int i tk, y] } := (hs2.2 _ ne1).trans hT
    have I2 := I1.track (p := s.heap.objs.size) (o := .tup [.int i, x]) hn (Heap.get?_none_of_le I.sz) FP.2.1 FP.2.2.2.2.1 FP.2.2.2.2.2
      ⟨by show 2 ≤ sizeLine; decide, [.int i tk, y], .cons ⟨tk, rfl⟩ (.cons ru .nil), ⟨_, hT2, rfl, _, rfl⟩⟩
    refine ⟨.ref s.heap.objs.size, _, I2, rfl, ⟨_, x, hn, rfl, rfl, fun ys hy => ?_⟩, ⟨⟨y, by simpa using he2⟩, hs'.1.at fun o q => (hs2.2 it hei.symm).trans q⟩, fun b hb => ?_⟩
    · rw [I.list_inj hy hq]; exact hx
    · have hb2 : b ≠ s.heap.objs.size := by
        rcases List.mem_cons.mp hb with rfl | hb
        · exact ne1.symm
        · obtain rfl := List.mem_singleton.mp hb
          obtain ⟨o, g, _⟩ := hit
          exact Nat.ne_of_lt (Heap.lt_size g)
      rw [upd_ne hb2]
      exact (hf b hb).1
  done := by
    intro X hP hw hK hc i pins s σ H E I hf st hg
    subst hP hw hK
    obtain ⟨⟨old, he⟩, hit⟩ := st
    obtain ⟨xs, hq, hx⟩ := hg
    obtain ⟨its, rv, tp, hz⟩ := I.list hq
    have tp' : s.heap.IsList a its.toArray := tp.isList
    have nai : a ≠ it := fun z => by
      obtain ⟨o, g1, g2, _⟩ := tp'
      obtain ⟨o', g1', g2', _⟩ := hit
      rw [z, g1'] at g1
      cases g1
      rw [g2'] at g2
      exact absurd g2 (by decide)
    have hl := rv.length
    have hT : s.TypeIs (.ref e) "enumerate" := ⟨_, he, rfl⟩
    obtain ⟨f0, f1, f2, f3, f4, f5⟩ := hf it (by simp)
    unfold pyNext
    refine wpAny_bind (wpAny_attempt (wpAny_callSpecial?_slot (name := Str.ofString "__next__") hT F.slot_enumerate_next ?_))
    refine wpAny_call_entry F.slot_enumerate_next hT F.entry_enumerate_next ?_ (F.args_enumerate_next_1 _)
    show wpAny _ _ (field (.ref e) 2 >>= _) _ _ _
    refine wpAny_bind (wpAny_field he rfl (x := .ref it) rfl ?_)
    refine wpAny_bind (wpAny_nextOf_list_end (by exact I.ok.hd hc) hit tp' (by simp; omega) fun h' x ext hex => ?_)
    obtain ⟨o, g1, g2⟩ := hex
    refine wpAny_bind (wpAny_isInstance (T := "StopIteration") (b := true) ⟨o, g1, g2⟩ isSubtype_stop ?_)
    exact wpAny_pure ⟨rfl, I.turned (t' := s.toks) (fun b ob nb q => ext b ob nb q) f0 f1 f3 f4 f5⟩
  self := fun _ _ _ _ _ st h => let ⟨⟨_, he⟩, _⟩ := st; wpAny_pyIter_enum he h
def iEnL (K : PySem.W.Frag) (ta : TA) : TI := fun σ H R => ta σ H fun vs H1 => ∃ a, vs = [.ref a] ∧ (∃ xs, SqL K H1 a xs) ∧ R (ItE K a) H1
theorem pi_enumL {X : Cx} {l : Expr} {ta : TA} {elts : List Expr} {kx : Nat} {px p pos : Pos} (hg : Gl X "enumerate") (hm : X.mg "enumerate" = none) (ha : PA X [l] ta) (hs : starEach [l] X.env = [(false, eval l X.env)] := by rfl) :
    PI X (.Tuple elts kx px) (.Call (.Name "enumerate" p) [l] [] pos) (iEnL X.K ta) := by
  intro pins s σ H R I h
  refine Call_ (ld_blt I hg hm boot_enumerate (PyProof.Rows.callWith_type1 (thn (ha pos pins s σ H _ I h) fun us s1 ⟨vs, H1, I1, r1, q1⟩ => ?_) hs rfl))
  obtain ⟨a, e, ⟨xs, hq⟩, q⟩ := q1
  subst e
  cases r1 with
  | cons r rr =>
    cases rr
    cases r
    obtain ⟨its, rv, tp, hz⟩ := I1.list hq
    refine call_enumerate_list tp.isList fun h' he hit hsz hk => ?_
    refine wpAny_pyIter_enum he ?_
    refine ⟨s1.heap.objs.size + 1, [s1.heap.objs.size + 1, s1.heap.objs.size], _, _, H1, rfl, I1.kept (t' := s1.toks) hk, turn_enumL a _ _ (Nat.succ_ne_self _), ⟨⟨_, he⟩, hit⟩, fun b hb => ?_, q⟩
    rcases List.mem_cons.mp hb with rfl | hb
    · exact I1.fpOk (Nat.le_succ _) (I1.hok.fresh (Nat.le_succ _))
    · obtain rfl := List.mem_singleton.mp hb
      exact I1.fpOk (Nat.le_refl _) (I1.hok.fresh (Nat.le_refl _))
theorem for_enumL {K : PySem.W.Frag} {a : Addr} {xs : List V} {g : TG} {tb : TS} {D : Ends} {σ : St} {H : Hp} (Pv : Nat → St → Hp → Prop) (h0 : Pv 0 σ H) (hl : ∀ i σ H, i ≤ xs.length → Pv i σ H → SqL K H a xs)
    (hs : ∀ i x σ H p, xs[i]? = some x → Pv i σ H → H p = none → g (.ref p) σ (upd H p (.tup [.int i, x])) fun σ2 H2 => tb { D with nx := Pv (i + 1), ct := Pv (i + 1), bk := D.nx } σ2 H2) (hd : ∀ σ H, Pv xs.length σ H → D.nx σ H) :
    ∃ W : Nat → Nat → St → Hp → Prop, (∃ m, W 0 m σ H) ∧ ∀ i m σ H, W i m σ H →
      ((ItE K a).stop i H ∧ D.nx σ H) ∨ ((ItE K a).go i H ∧ ∃ N : St → Hp → Prop, (∀ σ' H', N σ' H' → ∃ m', m' < m ∧ W (i + 1) m' σ' H') ∧ ∀ x H', (ItE K a).yld i H x H' → g x σ H' fun σ2 H2 => tb { D with nx := N, ct := N, bk := D.nx } σ2 H2) := by
  refine ⟨fun i m σ H => m = xs.length - i ∧ i ≤ xs.length ∧ Pv i σ H, ⟨xs.length, by simp, Nat.zero_le _, h0⟩, ?_⟩
  rintro i m σ H ⟨rfl, hi, p⟩
  have q := hl i σ H hi p
  by_cases hlt : i < xs.length
  · refine .inr ⟨⟨xs, xs[i], q, by simp [hlt]⟩, Pv (i + 1), fun σ' H' p' => ⟨xs.length - (i + 1), by omega, rfl, hlt, p'⟩, fun x H' y => ?_⟩
    obtain ⟨pp, v, hn, e1, e2, y⟩ := y
    subst e1 e2
    exact hs i v σ H pp (y xs q) p hn
  · have e : i = xs.length := by omega
    subst e
    exact .inl ⟨⟨xs, q, Nat.le_refl _⟩, hd σ H p⟩
section
variable {X : Cx}
theorem lst_walk' {pins : List (Addr × Obj)} {σ : St} {H : Hp} {s : Shared} {a : Addr} {its : List Value} (I : Inv X pins σ H s) (tp : s.heap.IsList a its.toArray) (hc : X.calm = true) {Q : Value → Shared → Prop}
    (q : ∀ s2 : Shared, s2 = { s with heap := s.heap.push { cls := .type "list_iterator", data := .fields #[.ref a, .int 0 0] } } → Walks X.prog X.w X.A.in1 s.heap.objs.size [s.heap.objs.size, a] [s.heap.objs.size] its.toArray.size (fun i v => its.toArray[i]? = some v) (fun i h => h.IsListIter s.heap.objs.size a i ∧ h.IsList a its.toArray) →
      (s2.heap.IsListIter s.heap.objs.size a 0 ∧ s2.heap.IsList a its.toArray) → (∀ b ∈ [s.heap.objs.size, a], b < s2.heap.objs.size) → Q (.ref s.heap.objs.size) s2) : wpAny (model X.prog X.w) X.A.in1 (pyIter (.ref a)) Q X.xe s := by
  have hlt : a < s.heap.objs.size := by obtain ⟨_, e, _⟩ := tp; exact Heap.lt_size e
  refine wpAny_pyIter_list tp (q _ rfl (Walks.list (by exact I.ok.hd hc) _ _ (Nat.ne_of_lt hlt) _) ⟨⟨_, Heap.get?_push_size _ rfl, rfl, rfl⟩, ?_⟩ fun b hb => ?_)
  · obtain ⟨o, e, r⟩ := tp
    exact ⟨o, Heap.get?_push_of_some _ e, r⟩
  · show b < (s.heap.push _).objs.size
    rw [Heap.size_push]
    rcases List.mem_cons.mp hb with rfl | hb
    · exact Nat.lt_succ_self _
    · rw [List.mem_singleton.mp hb]
      exact Nat.lt_succ_of_lt hlt
theorem preSum_take (ns : List Int) : ∀ k, k ≤ ns.length → preSum (fun i => ns.getD i 0) k = (ns.take k).sum
  | 0, _ => rfl
  | k + 1, h => by
    show preSum _ k + ns.getD k 0 = _
    rw [preSum_take ns k (by omega), ← List.take_append_getElem (by omega : k < ns.length), List.sum_append, getD_at (by omega)]
    simp
end
end L2
set_option Elab.async false
set_option linter.all false
set_option maxRecDepth 100000
namespace L2
open PySem PySem.Spec PyProof.Rows
theorem iteF_of {A B : Prop} (h : if false = true then A else B) : B := by rwa [if_neg Bool.false_ne_true] at h
theorem iteT_of {A B : Prop} (h : if true = true then A else B) : A := by rwa [if_pos rfl] at h
def cxComp (X : Cx) (Nc : List Str) (scope : Scope) (cl : List (Str × Addr)) (s : Shared) (H : Hp) (C : Addr) (fp : List Addr) : Cx :=
  { X with N := Nc, s₀ := s, H₀ := H, env := compEnvC scope cl C X.env, outer := X.stack, ex := fp, fn := fun _ => false, pn := [], xe := fun _ _ => False }
def seen (ix : List (Option Nat)) (σ : St) : St := ix.map fun o => match o with
  | some j => (σ[j]?).getD none
  | none => none
theorem closure_of {scope : Scope} {env : Env} (h : ∀ x ∈ scope.names, x.2 = .free → ∃ c, env.cells.lookup x.1 = some c) :
    ∃ cl, closureFor scope env = pure cl ∧ (∀ x c, cl.lookup x = some c → env.cells.lookup x = some c) ∧ ∀ x ∈ scope.names, x.2 = .free → ∃ c, cl.lookup x.1 = some c := by
  have go : ∀ (ns : List (Str × NameKind)) (cs : List (Str × Addr)), (∀ x ∈ ns, x.2 = .free → ∃ c, env.cells.lookup x.1 = some c) → (∀ x c, cs.lookup x = some c → env.cells.lookup x = some c) →
      ∃ cl, (forIn ns cs fun (x : Str × NameKind) (r : List (Str × Addr)) => (if (x.2 == .free) = true then (do let c ← cellOf env x.1; pure (ForInStep.yield ((x.1, c) :: r))) else pure (ForInStep.yield r) : Sem _)) = pure cl ∧
        (∀ x c, cl.lookup x = some c → env.cells.lookup x = some c) ∧ (∀ x ∈ ns, x.2 = .free → ∃ c, cl.lookup x.1 = some c) ∧ ∀ x c, cs.lookup x = some c → ∃ c', cl.lookup x = some c' := by
    intro ns
    induction ns with
    | nil => intro cs _ h2; exact ⟨cs, rfl, h2, fun x hx => (nomatch hx), fun x c e => ⟨c, e⟩⟩
    | cons p r ih =>
      obtain ⟨n, k⟩ := p
      intro cs h1 h2
      by_cases hk : k = .free
      · subst hk
        obtain ⟨c, hc⟩ := h1 (n, .free) List.mem_cons_self rfl
        have hcs : ∀ x c', List.lookup x ((n, c) :: cs) = some c' → env.cells.lookup x = some c' := fun x c' e => by
          rw [List.lookup_cons] at e
          cases hx : x == n with
          | true => rw [hx] at e; cases e; rw [eq_of_beq hx]; exact hc
          | false => rw [hx] at e; exact h2 x c' e
        obtain ⟨cl, e1, e2, e3, e4⟩ := ih ((n, c) :: cs) (fun x hx => h1 x (List.mem_cons_of_mem _ hx)) hcs
        refine ⟨cl, ?_, e2, fun x hx hf => ?_, fun x c' e => ?_⟩
        · rw [List.forIn_cons]
          have : cellOf env n = pure c := by unfold cellOf; rw [hc]
          simp only [beq_self_eq_true, if_true, this, pure_bind]
          exact e1
        · rcases List.mem_cons.mp hx with rfl | hx
          · exact e4 n c (by rw [List.lookup_cons, beq_self_eq_true])
          · exact e3 x hx hf
        · cases hx : x == n with
          | true => exact e4 x c (by rw [List.lookup_cons, hx])
          | false => exact e4 x c' (by rw [List.lookup_cons, hx]; exact e)
      · obtain ⟨cl, e1, e2, e3, e4⟩ := ih cs (fun x hx => h1 x (List.mem_cons_of_mem _ hx)) h2
        refine ⟨cl, ?_, e2, fun x hx hf => ?_, e4⟩
        · rw [List.forIn_cons]
          have hb : (k == NameKind.free) = false := by simpa using hk
          simp only [hb, Bool.false_eq_true, if_false, pure_bind]
          exact e1
        · rcases List.mem_cons.mp hx with rfl | hx
          · exact absurd hf hk
          · exact e3 x hx hf
  obtain ⟨cl, e1, e2, e3, _⟩ := go scope.names [] h (fun x c e => by cases e)
  refine ⟨cl, ?_, e2, e3⟩
  unfold closureFor
  simp only [bind_pure]
  exact e1
def PTs (X : Cx) (ifs : List Expr) (t : TT) : Prop :=
  ∀ (pins : List (Addr × Obj)) (s : Shared) (σ : St) (H : Hp) (Q : Bool → Hp → Prop), Inv X pins σ H s → t σ H Q →
    wpAny (model X.prog X.w) X.A (forIn ifs true fun c r => if r = true then do let ok ← isTrue c X.env (eval c X.env); pure (ForInStep.yield ok) else pure (ForInStep.yield r)) (TP X pins σ Q) X.xe s
def tYes : TT := fun _ H Q => Q true H
theorem pts_nil {X : Cx} : PTs X [] tYes := fun _ _ _ H _ I h => wpAny_tests_nil ⟨H, I, h⟩
def tCompR (wi : TI) (ix : List (Option Nat)) (g : TG) (tc : TT) (te : TE) (σ : St) (H : Hp) (R : List V → Hp → Prop) : Prop := wi σ H fun J H1 => ∃ W : Nat → Nat → List V → St → Hp → Prop, (∃ m, W 0 m [] (seen ix σ) H1) ∧ ∀ i m ys σ' H', W i m ys σ' H' →
  (J.stop i H' ∧ ys.length ≤ sizeLine ∧ R ys H') ∨
  (J.go i H' ∧ ys.length ≤ sizeLine ∧ ∃ N : List V → St → Hp → Prop, (∀ ys' σ2 H2, N ys' σ2 H2 → ∃ m', m' < m ∧ W (i + 1) m' ys' σ2 H2) ∧
    ∀ x H2, J.yld i H' x H2 → g x σ' H2 fun σ2 H3 => tc σ2 H3 fun b H4 => if b = true then te σ2 H4 fun y H5 => N (ys ++ [y]) σ2 H5 else N ys σ2 H4)
def tComp (wi : TI) (ix : List (Option Nat)) (g : TG) (tc : TT) (te : TE) : TE := fun σ H Q => tCompR wi ix g tc te σ H fun ys H' => ∀ l, H' l = none → Q (.ref l) (upd H' l (.lst ys))
def compOk (scope outer : Scope) (N Nc : List Str) (ix : List (Option Nat)) : Bool :=
  scope.names.all (fun y => y.2 != .cell) && scope.kind == .function && scope.names.all (fun y => y.2 != .local || scope.names.lookup y.1 == some .local) &&
  scope.names.all (fun y => y.2 != .free || outer.names.lookup y.1 == some .cell || outer.names.lookup y.1 == some .free) && ix.length == Nc.length &&
  (List.range Nc.length).all fun i => match ix[i]?, Nc[i]? with
    | some (some j), some x => N[j]? == some x && (outer.names.lookup x == some .cell || outer.names.lookup x == some .free) && scope.names.lookup x == some .free
    | _, _ => true
theorem relabel_of {env : Env} : ∀ {names : List (Str × NameKind)} {y : Str} {k : NameKind}, (∀ z ∈ names, z.2 ≠ .cell) →
    (names.map fun (n, k) => if (k == NameKind.free && env.scope.kind == .function && env.kindOf n == some .cell) then (n, NameKind.cell) else (n, k)).lookup y = some k → k = .cell ∨ k = .free → ∃ z ∈ names, z.1 = y ∧ z.2 = .free
  | [], _, _, _, h, _ => by simp at h
  | (n, k0) :: r, y, k, hc, h, hk => by
    rw [List.map_cons] at h
    have h : List.lookup y ((if (k0 == NameKind.free && env.scope.kind == .function && env.kindOf n == some .cell) = true then (n, NameKind.cell) else (n, k0)) :: _) = some k := h
    cases hx : y == n with
    | true =>
      by_cases hb : (k0 == NameKind.free && env.scope.kind == .function && env.kindOf n == some .cell) = true
      · simp only [Bool.and_eq_true, beq_iff_eq] at hb
        exact ⟨(n, k0), List.mem_cons_self, (eq_of_beq hx).symm, hb.1.1⟩
      · rw [if_neg hb, List.lookup_cons, hx] at h
        cases h
        rcases hk with rfl | rfl
        · exact absurd rfl (hc (n, .cell) List.mem_cons_self)
        · exact ⟨(n, .free), List.mem_cons_self, (eq_of_beq hx).symm, rfl⟩
    | false =>
      have h' : List.lookup y (r.map fun (n, k) => if (k == NameKind.free && env.scope.kind == .function && env.kindOf n == some .cell) then (n, NameKind.cell) else (n, k)) = some k := by
        by_cases hb : (k0 == NameKind.free && env.scope.kind == .function && env.kindOf n == some .cell) = true
        · rw [if_pos hb, List.lookup_cons, hx] at h; exact h
        · rw [if_neg hb, List.lookup_cons, hx] at h; exact h
      obtain ⟨z, hz, e1, e2⟩ := relabel_of (fun z hz => hc z (List.mem_cons_of_mem _ hz)) h' hk
      exact ⟨z, List.mem_cons_of_mem _ hz, e1, e2⟩
theorem relabel_free {env : Env} : ∀ {names : List (Str × NameKind)} {y : Str}, names.lookup y = some .free →
    (names.map fun (n, k) => if (k == NameKind.free && env.scope.kind == .function && env.kindOf n == some .cell) then (n, NameKind.cell) else (n, k)).lookup y = some .cell ∨
    (names.map fun (n, k) => if (k == NameKind.free && env.scope.kind == .function && env.kindOf n == some .cell) then (n, NameKind.cell) else (n, k)).lookup y = some .free
  | [], _, h => by simp at h
  | (n, k0) :: r, y, h => by
    rw [List.map_cons]
    show List.lookup y ((if (k0 == NameKind.free && env.scope.kind == .function && env.kindOf n == some .cell) = true then (n, NameKind.cell) else (n, k0)) :: _) = _ ∨ List.lookup y ((if (k0 == NameKind.free && env.scope.kind == .function && env.kindOf n == some .cell) = true then (n, NameKind.cell) else (n, k0)) :: _) = _
    cases hx : y == n with
    | true =>
      rw [List.lookup_cons, hx] at h
      cases h
      by_cases hb : ((NameKind.free == NameKind.free) && env.scope.kind == .function && env.kindOf n == some .cell) = true
      · rw [if_pos hb, List.lookup_cons, hx]; exact .inl rfl
      · rw [if_neg hb, List.lookup_cons, hx]; exact .inr rfl
    | false =>
      rw [List.lookup_cons, hx] at h
      by_cases hb : (k0 == NameKind.free && env.scope.kind == .function && env.kindOf n == some .cell) = true
      · rw [if_pos hb, List.lookup_cons, hx]; exact relabel_free h
      · rw [if_neg hb, List.lookup_cons, hx]; exact relabel_free h
theorem comp_core {X : Cx} {elt tg iter : Expr} {ifs : List Expr} {scope : Scope} {pos ipos : Pos} {Nc : List Str} {ix : List (Option Nat)} {wi : TI} {g : TG} {tc : TT} {te : TE} {use : Option (Value → Sem Unit)} {Q' : Value → Shared → Prop} {R : List V → Hp → Prop}
    {pins : List (Addr × Obj)} {σ : St} {H : Hp} {s : Shared} (hc : X.calm = true)
    (hcell : ∀ y ∈ scope.names, y.2 ≠ .cell) (hkind : scope.kind = .function) (hnames : ∀ y ∈ scope.names, y.2 = .local → scope.names.lookup y.1 = some .local)
    (hfree : ∀ y ∈ scope.names, y.2 = .free → X.env.kindOf y.1 = some .cell ∨ X.env.kindOf y.1 = some .free) (hvis : ∀ y k, (relabel scope X.env).names.lookup y = some k → k = .cell ∨ k = .free → ∃ z ∈ scope.names, z.1 = y ∧ z.2 = .free)
    (hlen : ix.length = Nc.length) (hix : ∀ (i : Nat) (x : Str) (j : Nat), Nc[i]? = some x → ix[i]? = some (some j) → X.N[j]? = some x ∧ Vis X.env.scope x ∧ (X.env.kindOf x = some .local → False) ∧ ((relabel scope X.env).names.lookup x = some .cell ∨ (relabel scope X.env).names.lookup x = some .free))
    (hi : PI X tg iter wi) (hg : ∀ cl s H C fp, PG (cxComp X Nc scope cl s H C fp) tg g) (hifs : ∀ cl s H C fp, PTs (cxComp X Nc scope cl s H C fp) ifs tc) (he : ∀ cl s H C fp, PE (cxComp X Nc scope cl s H C fp) elt te)
    (hs : ∀ x, foldedSetIterable iter X.env x = pure x) (I : Inv X pins σ H s) (h : tCompR wi ix g tc te σ H R)
    (fin : ∀ (D C : Addr) (oC : Obj) (ys : List V) (H3 : Hp) (s4 : Shared), (∃ m, ∀ h' : Heap, h'.get? C = some oC → h'.Ns C m) → H3 D = none → (upd H3 D (.lst ys)) C = none → Young X pins C → Inv X (pins ++ [(C, oC)]) σ (upd H3 D (.lst ys)) s4 → R ys H3 →
      compPost (model X.prog X.w) X.A X.xe use Q' (.ref D) C (.ok .next) s4) :
    wpAny (model X.prog X.w) X.A (comprehension (.ListComp elt [⟨tg, iter, ifs, 0⟩] scope pos) scope X.env ipos (newList []) false (eval iter X.env) use) Q' X.xe s := by
  obtain ⟨cl, hclos, clX, clF⟩ := closure_of (scope := scope) (env := X.env) fun x hx hf => I.ok.has x.1 (hfree x hx hf)
  refine wpAny_comprehension_free (use := use) rfl hs hclos hkind hnames (thn (hi pins s σ H _ I h) fun v s1 h1 => thn h1 fun itv s2 h2 => ?_)
  obtain ⟨it, fp, tn, J, H1, rfl, I1, T, t0, hfp, W, ⟨m0, w0⟩, turn⟩ := h2
  refine wpAny_newObj_type (wpAny_newFunctionEnv hcell (by intro y hy; simp at hy) (fun h₁ hns₁ hsb₁ => ?_) hkind)
  dsimp only at hns₁ hsb₁ ⊢
  generalize hH2 : s2.heap.push { cls := .type "list", dict := none, data := .seq ([] : List Value).toArray } = H2 at hns₁ hsb₁ ⊢
  have hC : H2.objs.size = s2.heap.objs.size + 1 := by rw [← hH2, Heap.size_push]
  have hDC : s2.heap.objs.size ≠ H2.objs.size := by rw [hC]; exact Nat.ne_of_lt (Nat.lt_succ_self _)
  have old : ∀ b o, s2.heap.get? b = some o → h₁.get? b = some o := fun b o e => by
    have hb := Heap.lt_size e
    exact hsb₁.extBut b o (by rw [hC]; exact Nat.ne_of_lt (Nat.lt_succ_of_lt hb)) (Heap.get?_push_of_some _ (hH2 ▸ Heap.get?_push_of_some _ e))
  obtain ⟨e0, hacc⟩ : ∃ e0, h₁.get? s2.heap.objs.size = some (seqObj "list" ([] : List Value).toArray e0) := ⟨_, hsb₁.extBut _ _ hDC (Heap.get?_push_of_some _ (hH2 ▸ Heap.get?_push_size _ rfl))⟩
  generalize hCC : H2.objs.size = C at hns₁ hsb₁ hDC hC ⊢
  generalize hDD : s2.heap.objs.size = D at hDC hC hacc ⊢
  have hDle : s2.heap.objs.size ≤ D := Nat.le_of_eq hDD
  have hCle : s2.heap.objs.size ≤ C := by rw [hC, ← hDD]; exact Nat.le_succ _
  have yD := I1.young hDle
  have nD : H1 D = none := I1.hok.fresh hDle
  have nC : H1 C = none := I1.hok.fresh hCle
  have fpLt : ∀ b ∈ fp, b < s2.heap.objs.size := fun b hb => by
    obtain ⟨o, e, _⟩ := T.obj 0 _ t0 b hb
    exact Heap.lt_size e
  have fpD : D ∉ fp := fun hm => absurd (fpLt _ hm) (Nat.not_lt.mpr hDle)
  have fpC : C ∉ fp := fun hm => absurd (fpLt _ hm) (Nat.not_lt.mpr hCle)
  have frN : ∀ b ∈ frs X.stack, b < s2.heap.objs.size := fun b hb => by
    obtain ⟨_, o, ho, _⟩ := I1.stack.mem hb
    exact Heap.lt_size ho
  have frFp : ∀ b ∈ fp, b ∉ frs X.stack := fun b hb hm => by
    rcases List.mem_cons.mp (I1.stkSub b hm) with z | z
    · exact (hfp b hb).2.1 z
    · exact (hfp b hb).2.2.1 z
  -- the block's context
  have ok : (cxComp X Nc scope cl s2 H1 C fp).Ok :=
    ⟨I.ok.mod, (by show (relabel scope X.env).kind = _; exact hkind), I.ok.glob, I.ok.blt, hCle, (fun x y c e1 e2 => I.ok.inj x y c (clX x c e1) (clX y c e2)),
      (fun x hx => by
        obtain ⟨z, hz, rfl, hf⟩ : ∃ z ∈ scope.names, z.1 = x ∧ z.2 = .free := by
          rcases hx with hx | hx
          · exact hvis x _ hx (.inl rfl)
          · exact hvis x _ hx (.inr rfl)
        exact clF z hz hf), (fun x c z => nomatch z), I.ok.hd, I.ok.frames, .inl rfl,
      (fun b hb => ⟨fun z => fpC ((show b = C from z) ▸ hb), fun x c e => (hfp b hb).2.2.2.2.1 x c (clX x c e)⟩), (fun b o e => I1.bs b o e), Nat.le_trans I.ok.bsz I1.sz,
      (fun b o e hb => by
        rcases (hfp b hb).2.2.2.1 with z | z
        · exact I.ok.noex b o e z
        · have := Heap.lt_size (I.ok.bs b o e).1
          exact absurd this (Nat.not_lt.mpr z)),
      frFp, I1.stack, I1.stkFree⟩
  have start : ∀ tk, Inv (cxComp X Nc scope cl s2 H1 C fp) [(D, seqObj "list" ([] : List Value).toArray e0)] (seen ix σ) H1 { s2 with heap := h₁, toks := tk } := fun tk => by
    refine ⟨ok, rfl, I1.bare, Un.kept old, ⟨_, hns₁, fun i x v e1 e2 e3 => ?_⟩, fun x c e => ?_, nC, fun x c e => I1.freeC x c (clX x c e), fun p hp => ?_, I1.hok.kept old, by show (seen ix σ).length = Nc.length; unfold seen; rw [List.length_map]; exact hlen⟩
    · unfold seen at e2
      rw [List.getElem?_map] at e2
      cases ei : ix[i]? with
      | none => rw [ei] at e2; cases e2
      | some o =>
        rw [ei] at e2
        cases o with
        | none => cases e2
        | some j =>
          have e2' : (σ[j]?).getD none = some v := Option.some.inj e2
          have e2'' : σ[j]? = some (some v) := by
            cases ej : σ[j]? with
            | none => rw [ej] at e2'; cases e2'
            | some z => rw [ej] at e2'; exact congrArg some e2'
          obtain ⟨n1, n2, n3, n4⟩ := hix i x j e1 ei
          obtain ⟨m, hm, hl⟩ := I1.loc
          obtain ⟨u, ru, lk⟩ := hl j x v n1 e2'' n2
          refine ⟨u, ru, .inr ⟨n4, ?_⟩⟩
          rcases lk with ⟨k, _⟩ | ⟨_, c, ec, hc'⟩
          · exact (n3 k).elim
          · obtain ⟨z, hz, rfl, hf⟩ : ∃ z ∈ scope.names, z.1 = x ∧ z.2 = .free := by
              rcases n4 with hx | hx
              · exact hvis x _ hx (.inl rfl)
              · exact hvis x _ hx (.inr rfl)
            obtain ⟨c', ec'⟩ := clF z hz hf
            have : c' = c := Option.some.inj ((clX _ _ ec').symm.trans ec)
            subst this
            obtain ⟨o, ho, hd⟩ := hc'
            exact ⟨c', ec', o, old _ o ho, hd⟩
    · obtain ⟨v, o, ho, hd⟩ := I1.cell x c (clX x c e)
      exact ⟨v, o, old _ o ho, hd⟩
    · have hp' : p = (D, seqObj "list" ([] : List Value).toArray e0) := by simpa [cxComp] using hp
      subst hp'
      exact ⟨hacc, nD, hDC, fun hm => absurd (frN _ hm) (Nat.not_lt.mpr hDle), fun v z => by cases z⟩
  have stat : ∀ {ks : List Value} {e : Nat} {H' : Hp}, (∀ b ∈ fp, H' b = none) → ∀ b ∈ fp, FpOk (cxComp X Nc scope cl s2 H1 C fp) [(D, seqObj "list" ks.toArray e)] H' b := fun {ks e H'} hn b hb =>
    ⟨hn b hb, fun z => fpC ((show b = C from z) ▸ hb), frFp b hb, .inl hb, fun x c ec => (hfp b hb).2.2.2.2.1 x c (clX x c ec), fun p hp z => by
      have hp' : p = (D, seqObj "list" ks.toArray e) := by simpa [cxComp] using hp
      subst hp'
      exact fpD ((show b = D from z.symm) ▸ hb)⟩
  have loop : ∀ tk, codeAny (model X.prog X.w) X.A (.compLoop (.ListComp elt [⟨tg, iter, ifs, 0⟩] scope pos) 0 (.ref it) (.ref D) (compEnvC scope cl C X.env)) (compPost (model X.prog X.w) X.A X.xe use Q' (.ref D) C) { s2 with heap := h₁, toks := tk } := fun tk => by
    refine codeAny_loop rfl (fun n s' => ∃ i ys ks e σ' H', Inv (cxComp X Nc scope cl s2 H1 C fp) [(D, seqObj "list" ks.toArray e)] σ' H' s' ∧ Vals ys ks ∧ tn i s'.heap ∧ (∀ b ∈ fp, H' b = none) ∧ W i n ys σ' H') ?_ m0
      ⟨0, [], [], e0, _, H1, start tk, .nil, T.keep _ _ _ t0 fun b _ o e => old b o e, fun b hb => (hfp b hb).1, w0⟩
    rintro n s3 ⟨i, ys, ks, e, σ3, H3, I3, rv, st3, fr3, w3⟩
    show wpAny _ X.A ((compTurn (.ListComp elt [⟨tg, iter, ifs, 0⟩] scope pos) 0 (.ref it) (.ref D) (compEnvC scope cl C X.env)).onRaise (fun x => do noteFrame x (compEnvC scope cl C X.env); theTreesLotGoes x)) _ _ s3
    refine wpAny_noted ?_
    rw [compTurn_list]
    refine wpAny_bind (wpAny_standAt ?_)
    have lk := rv.length
    rcases turn i n ys σ3 H3 w3 with ⟨stop, sz, q⟩ | ⟨go, sz, N, hN, step⟩
    · refine wpAny_bind (thn (T.done (cxComp X Nc scope cl s2 H1 C fp) rfl rfl rfl hc i _ s3 σ3 H3 _ I3 (stat fr3) st3 stop) fun r s4 ⟨hr, I4⟩ => ?_)
      subst hr
      refine wpAny_pure ?_
      obtain ⟨m, ⟨oC, esC, epC, hoC, hdC, rC⟩, _⟩ := I4.loc
      have hoC : s4.heap.get? C = some oC := hoC
      have pD := I4.pin (D, seqObj "list" ks.toArray e) (List.mem_append_right _ List.mem_cons_self)
      have nC4 : H3 C = none := I4.free
      have yC := I1.young hCle
      have I5 : Inv X pins σ H3 s4 := I1.call' (ch := fp) I4.os (show Un (frs X.stack) fp H1 H3 s2.heap s4.heap from I4.base) I4.hok I4.bare fun b hb => ⟨(hfp b hb).2.2.2.1, (hfp b hb).2.1, (hfp b hb).2.2.2.2.1, (hfp b hb).2.2.2.2.2⟩
      have I6 := I5.track (p := D) (o := .lst ys) pD.2.1 (Heap.get?_none_of_le (Nat.le_trans I1.sz hDle)) yD.lo yD.ce yD.pi ⟨sz, ks, e, rv, pD.1⟩
      have nC6 : (upd H3 D (.lst ys)) C = none := by rw [upd_ne hDC.symm]; exact nC4
      have I7 : Inv X (pins ++ [(C, oC)]) σ (upd H3 D (.lst ys)) s4 := I6.pins_of fun p hp => by
        rcases List.mem_append.mp hp with hp | hp
        · exact I6.pin p (List.mem_append_right _ hp)
        · obtain rfl := List.mem_singleton.mp hp
          exact ⟨hoC, nC6, yC.lo, yC.fs, fun v z => by rw [hdC] at z; cases z⟩
      exact fin D C oC ys H3 s4 ⟨m, fun h' e' => ⟨oC, esC, epC, e', hdC, rC⟩⟩ pD.2.1 nC6 yC I7 q
    · refine wpAny_bind (thn (T.item (cxComp X Nc scope cl s2 H1 C fp) rfl rfl rfl hc i _ s3 σ3 H3 _ I3 (stat fr3) st3 go) fun r s4 ⟨u, hr, h4⟩ => ?_)
      subst hr
      refine wpAny_bind (thn h4 fun _ s5 ⟨x, H5, I5, r5, y5, st5, fr5⟩ => ?_)
      have I5' := I5.pinned (stat fr5) (T.obj _ _ st5)
      refine wpAny_bind (wpAny_mono (hg cl s2 H1 C fp _ s5 σ3 H5 x u _ I5' r5 (step x H5 y5)) (fun _ s6 ⟨σ6, H6, I6, q6⟩ => ?_) fun _ _ z => False.elim z)
      refine wpAny_bind (wpAny_mono (hifs cl s2 H1 C fp _ s6 σ6 H6 _ I6 q6) (fun ok s7 ⟨H7, I7, q7⟩ => ?_) fun _ _ z => False.elim z)
      have fin : ∀ {ks' : List Value} {e' : Nat} {ys' : List V} {σ8 : St} {H8 : Hp} {s8 : Shared}, Inv (cxComp X Nc scope cl s2 H1 C fp) ([(D, seqObj "list" ks'.toArray e')] ++ pinsAt fp s5.heap) σ8 H8 s8 → Vals ys' ks' → N ys' σ8 H8 →
          ∃ m, m < n ∧ ∃ i ys ks e σ' H', Inv (cxComp X Nc scope cl s2 H1 C fp) [(D, seqObj "list" ks.toArray e)] σ' H' s8 ∧ Vals ys ks ∧ tn i s8.heap ∧ (∀ b ∈ fp, H' b = none) ∧ W i m ys σ' H' := fun {ks' e' ys' σ8 H8 s8} I8 rv' n8 => by
        obtain ⟨m', hm, w8⟩ := hN _ σ8 H8 n8
        refine ⟨m', hm, i + 1, ys', ks', e', σ8, H8, I8.unpinned, rv', T.keep _ _ _ st5 fun b hb o eo => (I8.pin (b, o) (List.mem_append_right _ (List.mem_append_right _ (mem_pinsAt hb eo)))).1, fun b hb => ?_, w8⟩
        obtain ⟨o, eo, d⟩ := T.obj _ _ st5 b hb
        exact (I8.pin (b, o) (List.mem_append_right _ (List.mem_append_right _ (mem_pinsAt hb eo)))).2.1
      cases ok with
      | false =>
        have q7 := iteF_of q7
        exact wpAny_pure ⟨rfl, fin I7 rv q7⟩
      | true =>
        have q7 := iteT_of q7
        refine wpAny_bind (wpAny_bind (wpAny_mono (he cl s2 H1 C fp _ s7 σ6 H7 _ I7 q7) (fun y s8 ⟨vy, H8, I8, ry, n8⟩ => ?_) fun _ _ z => False.elim z))
        have pD := I8.pin (D, seqObj "list" ks.toArray e) (List.mem_append_right _ (List.mem_append_left _ List.mem_cons_self))
        refine wpAny_bind (wpAny_list_append_plain (hsz := by rw [List.size_toArray, ← lk]; exact sz) ⟨e, pD.1⟩ fun h9 hl9 hs9 => ?_)
        refine wpAny_pure (wpAny_pure ⟨rfl, ?_⟩)
        obtain ⟨e9, hl9⟩ := hl9
        have ea : ks.toArray.push y = (ks ++ [y]).toArray := by simp
        rw [ea] at hl9
        refine fin (ks' := ks ++ [y]) (e' := e9) (ys' := ys ++ [vy]) ?_ (Vals.append rv (.cons ry .nil)) n8
        have ne9 : ∀ p ∈ pinsAt fp s5.heap, p.1 ≠ D := fun p hp z => fpD (z ▸ (of_pinsAt hp).1)
        have yDb : Young (cxComp X Nc scope cl s2 H1 C fp) (pinsAt fp s5.heap) D := ⟨hDC, fun hm => absurd (frN _ hm) (Nat.not_lt.mpr hDle), .inr hDle, fun x c ec => yD.ce x c (clX x c ec), fun p hp => ne9 p (by simpa [cxComp] using hp)⟩
        have I8a : Inv (cxComp X Nc scope cl s2 H1 C fp) (pinsAt fp s5.heap) σ6 H8 s8 := I8.pins_of fun p hp => I8.pin p (List.mem_append_right _ (List.mem_append_right _ hp))
        have I8b := I8a.record yDb pD.2.1 hs9
        exact I8b.pins_of fun p hp => by
          rcases List.mem_append.mp hp with hp | hp
          · obtain rfl := List.mem_singleton.mp hp
            exact ⟨hl9, pD.2.1, yDb.lo, yDb.fs, fun v z => by cases z⟩
          · exact I8b.pin p (List.mem_append_right _ hp)
  exact codeAny_compStart_list (loop _) (T.self _ 0 _ _ _ (T.keep _ _ _ t0 fun b _ o e => old b o e) (loop _))
theorem compOk_all {X : Cx} {scope : Scope} {Nc : List Str} {ix : List (Option Nat)} (h : compOk scope X.env.scope X.N Nc ix = true) : (∀ y ∈ scope.names, y.2 ≠ .cell) ∧ scope.kind = .function ∧ (∀ y ∈ scope.names, y.2 = .local → scope.names.lookup y.1 = some .local) ∧
    (∀ y ∈ scope.names, y.2 = .free → X.env.kindOf y.1 = some .cell ∨ X.env.kindOf y.1 = some .free) ∧ ix.length = Nc.length ∧
    ∀ (i : Nat) (x : Str) (j : Nat), Nc[i]? = some x → ix[i]? = some (some j) → X.N[j]? = some x ∧ Vis X.env.scope x ∧ (X.env.kindOf x = some .local → False) ∧ ((relabel scope X.env).names.lookup x = some .cell ∨ (relabel scope X.env).names.lookup x = some .free) := by
  unfold compOk at h
  simp only [Bool.and_eq_true, beq_iff_eq, List.all_eq_true, Bool.or_eq_true, bne_iff_ne] at h
  obtain ⟨⟨⟨⟨⟨h1, h2⟩, h3⟩, h4⟩, h5⟩, h6⟩ := h
  refine ⟨h1, h2, fun y hy e => ?_, fun y hy e => ?_, h5, fun i x j e1 e2 => ?_⟩
  · rcases h3 y hy with z | z
    · exact absurd e z
    · exact z
  · rcases h4 y hy with (z | z) | z
    · exact absurd e z
    · exact .inl z
    · exact .inr z
  · have q := h6 i (List.mem_range.mpr (List.getElem?_eq_some_iff.mp e1).1)
    rw [e1, e2] at q
    simp only [Bool.and_eq_true, beq_iff_eq, Bool.or_eq_true] at q
    obtain ⟨⟨q1, q2⟩, q3⟩ := q
    refine ⟨q1, ?_, fun z => ?_, relabel_free q3⟩
    · rcases q2 with z | z
      · exact .inr (.inl z)
      · exact .inr (.inr z)
    · have z' : X.env.scope.names.lookup x = some .local := z
      rcases q2 with y | y
      · rw [y] at z'; cases z'
      · rw [y] at z'; cases z'
theorem pe_comp {X : Cx} {elt tg iter : Expr} {ifs : List Expr} {scope : Scope} {pos : Pos} {Nc : List Str} {ix : List (Option Nat)} {wi : TI} {g : TG} {tc : TT} {te : TE} (hc : X.calm = true) (hok : compOk scope X.env.scope X.N Nc ix = true)
    (hi : PI X tg iter wi) (hg : ∀ cl s H C fp, PG (cxComp X Nc scope cl s H C fp) tg g) (hifs : ∀ cl s H C fp, PTs (cxComp X Nc scope cl s H C fp) ifs tc) (he : ∀ cl s H C fp, PE (cxComp X Nc scope cl s H C fp) elt te)
    (hs : ∀ x, foldedSetIterable iter X.env x = pure x := by intro _; rfl) : PE X (.ListComp elt [⟨tg, iter, ifs, 0⟩] scope pos) (tComp wi ix g tc te) := by
  intro pins s σ H Q I h
  obtain ⟨h1, h2, h3, h4, h5, h6⟩ := compOk_all hok
  rw [eval_ListComp]
  refine comp_core (Q' := EP X pins σ Q) hc h1 h2 h3 h4 (fun y k e hk => relabel_of h1 e hk) h5 h6 hi hg hifs he hs I h fun D C oC ys H3 s4 hN nD nC yC I4 q => ?_
  have pC := I4.pin (C, oC) (List.mem_append_right _ (List.mem_append_right _ List.mem_cons_self))
  obtain ⟨m, hm⟩ := hN
  exact ⟨m, hm _ pC.1, fun h' hsb => ⟨.ref D, _, I4.unpinned.record yC nC hsb, rfl, q D nD⟩⟩
def sComp (i : Nat) (wi : TI) (ix : List (Option Nat)) (g : TG) (tc : TT) (te : TE) : TS := fun D σ H => tCompR wi ix g tc te σ H fun ys H' => ∀ l, H' l = none → D.nx (σ.set i (some (.ref l))) (upd H' l (.lst ys))
theorem ps_comp {X : Cx} {i : Nat} {y : Str} {elt tg iter : Expr} {ifs : List Expr} {scope : Scope} {pos spos py : Pos} {Nc : List Str} {ix : List (Option Nat)} {wi : TI} {g : TG} {tc : TT} {te : TE} (hN : X.N.Nodup) (hi' : X.N[i]? = some y) (hx : Loc X.env.scope y) (hc : X.calm = true) (hok : compOk scope X.env.scope X.N Nc ix = true)
    (hi : PI X tg iter wi) (hg : ∀ cl s H C fp, PG (cxComp X Nc scope cl s H C fp) tg g) (hifs : ∀ cl s H C fp, PTs (cxComp X Nc scope cl s H C fp) ifs tc) (he : ∀ cl s H C fp, PE (cxComp X Nc scope cl s H C fp) elt te)
    (hs : ∀ x, foldedSetIterable iter X.env x = pure x := by intro _; rfl) (hsw : swapsWith (.ListComp elt [⟨tg, iter, ifs, 0⟩] scope pos) (some (.Name y py)) spos.line X.env = pure true := by rfl)
    (hf : X.fn y = true ∨ X.env.scope.names.lookup y = some .local := by first | exact .inl rfl | exact .inr rfl | assumption) : PS X (.Assign [.Name y py] (.ListComp elt [⟨tg, iter, ifs, 0⟩] scope pos) spos) (sComp i wi ix g tc te) := by
  intro pins s σ H D I h
  obtain ⟨h1, h2, h3, h4, h5, h6⟩ := compOk_all hok
  rw [exec_Assign_Name_used _ _ _ _ hsw]
  refine wpAny_bind (wpAny_standAt (wpAny_bind ?_))
  show wpAny _ X.A (do let _ ← comprehension (.ListComp elt [⟨tg, iter, ifs, 0⟩] scope pos) scope X.env _ (newList []) false (eval iter X.env) (some (assign (.Name y py) X.env))) _ _ s
  refine wpAny_bind (wpAny_mono (comp_core (Q' := fun _ s' => SP X pins D .next s') hc h1 h2 h3 h4 (fun y k e hk => relabel_of h1 e hk) h5 h6 hi hg hifs he hs I h fun Da C oC ys H3 s4 hN' nD nC yC I4 q => ?_)
    (fun _ s' hq => wpAny_pure (wpAny_pure hq)) fun _ _ e => e)
  show wpAny _ _ (assign (.Name y py) X.env (.ref Da)) _ _ s4
  refine thn (pg_name (i := i) hN hi' hx hf _ s4 σ _ (.ref Da) (.ref Da) (fun σ' H' => σ' = σ.set i (some (.ref Da)) ∧ H' = upd H3 Da (.lst ys)) I4 rfl ⟨rfl, rfl⟩) fun _ s5 ⟨σ5, H5, I5, e1, e2⟩ => ?_
  subst e1 e2
  have pC := I5.pin (C, oC) (List.mem_append_right _ (List.mem_append_right _ List.mem_cons_self))
  obtain ⟨m, hm⟩ := hN'
  exact ⟨m, hm _ pC.1, fun h' hsb => ⟨_, _, I5.unpinned.record yC nC hsb, q Da nD⟩⟩
end L2
set_option Elab.async false
set_option linter.all false
set_option maxRecDepth 100000
namespace L2
open PySem PySem.Spec PyProof.Rows
section
variable {X : Cx}
theorem lst_walk {pins : List (Addr × Obj)} {σ : St} {H : Hp} {s : Shared} {a : Addr} {its : List Value} (I : Inv X pins σ H s) (tp : s.heap.IsList a its.toArray) (hc : X.calm = true) {Q : Value → Shared → Prop}
    (q : ∀ s2 : Shared, s2 = { s with heap := s.heap.push { cls := .type "list_iterator", data := .fields #[.ref a, .int 0 0] } } → Walks X.prog X.w X.A.in1 s.heap.objs.size [s.heap.objs.size, a] [s.heap.objs.size] its.toArray.size (fun i v => its.toArray[i]? = some v) (fun i h => h.IsListIter s.heap.objs.size a i ∧ h.IsList a its.toArray) →
      (s2.heap.IsListIter s.heap.objs.size a 0 ∧ s2.heap.IsList a its.toArray) → (∀ b ∈ [s.heap.objs.size, a], b < s2.heap.objs.size) → Q (.ref s.heap.objs.size) s2) : wpAny (model X.prog X.w) X.A.in1 (pyIter (.ref a)) Q X.xe s := by
  have hlt : a < s.heap.objs.size := by obtain ⟨_, e, _⟩ := tp; exact Heap.lt_size e
  refine wpAny_pyIter_list tp (q _ rfl (Walks.list (by exact I.ok.hd hc) _ _ (Nat.ne_of_lt hlt) _) ⟨⟨_, Heap.get?_push_size _ rfl, rfl, rfl⟩, ?_⟩ fun b hb => ?_)
  · obtain ⟨o, e, r⟩ := tp
    exact ⟨o, Heap.get?_push_of_some _ e, r⟩
  · show b < (s.heap.push _).objs.size
    rw [Heap.size_push]
    rcases List.mem_cons.mp hb with rfl | hb
    · exact Nat.lt_succ_self _
    · rw [List.mem_singleton.mp hb]
      exact Nat.lt_succ_of_lt hlt
theorem bools_of {bs : List Bool} {its : List Value} (r : Vals (bs.map V.bl) its) : ∀ (i : Nat) (v : Value), its.toArray[i]? = some v → v = Value.bool (bs.getD i false) := by
  intro i v e
  rw [List.getElem?_toArray] at e
  have hl := r.length
  have hi : i < its.length := (List.getElem?_eq_some_iff.mp e).1
  rw [List.length_map] at hl
  have hx : (bs.map V.bl)[i]? = some (.bl (bs.getD i false)) := by
    rw [List.getElem?_map, List.getElem?_eq_getElem (by omega)]
    simp [List.getD, show i < bs.length by omega]
  obtain ⟨u, hu, ru⟩ := r.get hx
  rw [e] at hu
  cases hu
  exact ru
theorem all_range (bs : List Bool) : (List.range bs.length).all (fun i => bs.getD i false) = bs.all id := by
  rw [Bool.eq_iff_iff, List.all_eq_true, List.all_eq_true]
  constructor
  · intro h b hb
    obtain ⟨i, hi, rfl⟩ := List.mem_iff_getElem.mp hb
    have := h i (List.mem_range.mpr hi)
    rwa [getD_at hi] at this
  · intro h i hi
    have hi := List.mem_range.mp hi
    rw [getD_at hi]
    exact h _ (List.getElem_mem hi)
theorem call_allL (hc : X.calm = true) : CallR X (.builtin "all") (fun xs H Q => ∃ (a : Addr) (bs : List Bool), xs = [.ref a] ∧ SqL X.K H a (bs.map V.bl) ∧ Q (.bl (bs.all id)) H) := by
  intro pins s σ H xs us Q I r h
  obtain ⟨a, bs, rfl, hq, q⟩ := h
  obtain ⟨u, rfl, ru⟩ := vals1 r
  cases ru
  obtain ⟨its, rv, tp, hz⟩ := I.list hq
  have hl := rv.length
  rw [List.length_map] at hl
  refine call_all_walk (lst_walk I tp.isList hc fun s2 e W st hfp => ?_)
  subst e
  refine ⟨_, _, _, _, _, _, fun i => bs.getD i false, rfl, W, st, fun i v A' Q' E' hP hQ => ?_, fun h' tk hk => ?_⟩
  · have := bools_of rv i v hP
    subst this
    exact wpAny_truthy_bool hQ
  · refine ⟨.bl _, H, I.kept (t' := tk) fun b o e => hk b o (fun m => ?_) (Heap.get?_push_of_some _ e), ?_, q⟩
    · have := Heap.lt_size e
      rw [List.mem_singleton.mp m] at this
      exact Nat.lt_irrefl _ this
    · show Value.bool _ = Value.bool _
      rw [List.size_toArray, ← hl, all_range]
end
end L2
set_option Elab.async false
set_option linter.all false
set_option maxRecDepth 100000
namespace L2
open PySem PySem.Spec PyProof.Rows
inductive EqR (K : PySem.W.Frag) (H : Hp) : Nat → V → V → Bool → Prop where
  | flat {n : Nat} {x y : V} (fx : flatV x = true) (fy : flatV y = true) : EqR K H n x y (eqV x y)
  | tups {n : Nat} {a b : Addr} {xs ys : List V} {e : Nat → Bool} (ha : SqT K H a xs) (hb : SqT K H b ys) (he : ∀ j, j < xs.length → j < ys.length → EqR K H n (xs.getD j .non) (ys.getD j .non) (e j)) :
      EqR K H (n + 1) (.ref a) (.ref b) ((List.range (min xs.length ys.length)).all e && xs.length == ys.length)
  | lsts {n : Nat} {a b : Addr} {xs ys : List V} {e : Nat → Bool} (ha : SqL K H a xs) (hb : SqL K H b ys) (hl : xs.length = ys.length) (he : ∀ j, j < xs.length → EqR K H n (xs.getD j .non) (ys.getD j .non) (e j)) :
      EqR K H (n + 1) (.ref a) (.ref b) ((List.range xs.length).all e)
  | lens {n : Nat} {a b : Addr} {xs ys : List V} (ha : SqL K H a xs) (hb : SqL K H b ys) (hl : xs.length ≠ ys.length) : EqR K H (n + 1) (.ref a) (.ref b) false
theorem eqV_refl : ∀ {x : V}, flatV x = true → eqV x x = true
  | .non, _ => rfl
  | .bl b, _ => beq_self_eq_true b
  | .int i, _ => beq_self_eq_true i
  | .str s, _ => beq_self_eq_true s
section
variable {X : Cx} {pins : List (Addr × Obj)} {σ : St} {H : Hp} {s : Shared}
theorem EqR.refl (I : Inv X pins σ H s) {n : Nat} {x y : V} {b : Bool} (h : EqR X.K H n x y b) : x = y → b = true := by
  induction h with
  | flat fx fy => intro e; subst e; exact eqV_refl fx
  | @tups n a b xs ys e ha hb he ih =>
    intro z
    cases z
    have := I.tuple_inj ha hb
    subst this
    rw [beq_self_eq_true, Bool.and_true, List.all_eq_true]
    intro j hj
    have hj := List.mem_range.mp hj
    exact ih j (by omega) (by omega) rfl
  | @lsts n a b xs ys e ha hb hl he ih =>
    intro z
    cases z
    have := I.list_inj ha hb
    subst this
    rw [List.all_eq_true]
    intro j hj
    exact ih j (List.mem_range.mp hj) rfl
  | @lens n a b xs ys ha hb hl =>
    intro z
    cases z
    exact absurd (by rw [I.list_inj ha hb]) hl
theorem EqR.at (I : Inv X pins σ H s) {n : Nat} {x y : V} {b : Bool} (h : EqR X.K H n x y b) : ∀ {A : Around} {u v : Value}, RelV x u → RelV y v → A.units + n < cLine → SeqAt.EqAt A s u v b := by
  induction h with
  | flat fx fy => intro A u v ru rv _; exact eqAt_V ru rv fx fy
  | @tups n a b xs ys e ha hb he ih =>
    intro A u v ru rv hu
    cases ru
    cases rv
    by_cases hab : a = b
    · have := EqR.refl I (EqR.tups (n := n) ha hb he) (by rw [hab])
      rw [this, hab]
      exact SeqAt.EqAt.same _
    · obtain ⟨i1, r1, p1, z1⟩ := I.tuple ha
      obtain ⟨i2, r2, p2, z2⟩ := I.tuple hb
      have l1 := r1.length
      have l2 := r2.length
      have := SeqAt.RcAt.tuples (A := A) (e := e) (show s.heap.IsTuple a i1.toArray from p1) (show s.heap.IsTuple b i2.toArray from p2) (by omega) fun j h1 h2 => by
        have h1' : j < i1.length := by simpa using h1
        have h2' : j < i2.length := by simpa using h2
        have q := ih j (by omega) (by omega) (A := A.in1) (val_at r1 h1') (val_at r2 h2') (by show A.units + 1 + n < cLine; omega)
        simpa using q
      rw [List.size_toArray, List.size_toArray, ← l1, ← l2] at this
      exact SeqAt.EqAt.of_refs hab this
  | @lsts n a b xs ys e ha hb hl he ih =>
    intro A u v ru rv hu
    cases ru
    cases rv
    by_cases hab : a = b
    · have := EqR.refl I (EqR.lsts (n := n) ha hb hl he) (by rw [hab])
      rw [this, hab]
      exact SeqAt.EqAt.same _
    · obtain ⟨i1, r1, p1, z1⟩ := I.list ha
      obtain ⟨i2, r2, p2, z2⟩ := I.list hb
      have l1 := r1.length
      have l2 := r2.length
      have := SeqAt.RcAt.lists (A := A) (e := e) p1.isList p2.isList (by simp; omega) (by omega) fun j h1 h2 => by
        have h1' : j < i1.length := by simpa using h1
        have h2' : j < i2.length := by simpa using h2
        have q := ih j (by omega) (A := A.in1) (val_at r1 h1') (val_at r2 h2') (by show A.units + 1 + n < cLine; omega)
        simpa using q
      rw [List.size_toArray, ← l1] at this
      exact SeqAt.EqAt.of_refs hab this
  | @lens n a b xs ys ha hb hl =>
    intro A u v ru rv hu
    cases ru
    cases rv
    obtain ⟨i1, r1, p1, z1⟩ := I.list ha
    obtain ⟨i2, r2, p2, z2⟩ := I.list hb
    have l1 := r1.length
    have l2 := r2.length
    have hab : a ≠ b := fun z => by subst z; exact hl (by rw [I.list_inj ha hb])
    exact SeqAt.EqAt.of_refs hab (SeqAt.RcAt.lists_lengths p1.isList p2.isList (by simp; omega) (by omega))
def rEqR (K : PySem.W.Frag) (neg : Bool) : R2 := fun x y H Q => ∃ (a c : Addr) (n : Nat) (b : Bool), x = .ref a ∧ y = .ref c ∧ EqR K H n x y b ∧ n ≤ 50 ∧ Q (.bl (if neg then !b else b)) H
theorem op_eqR (hu : X.A.units + 64 < cLine) : OpR X (compareOp .Eq) (rEqR X.K false) := by
  intro pins s σ H x y v u Q I rx ry h
  obtain ⟨a, c, n, b, rfl, rfl, e, hn, q⟩ := h
  cases rx
  cases ry
  have fin : ∀ {k : Bool}, k = b → EP X pins σ Q (.bool k) s := fun z => ⟨.bl b, H, I, by rw [z]; rfl, q⟩
  cases e with
  | flat fx fy => exact absurd (show false = true from fx) Bool.false_ne_true
  | @tups n _ _ xs ys e ha hb he =>
    obtain ⟨i1, r1, p1, z1⟩ := I.tuple ha
    obtain ⟨i2, r2, p2, z2⟩ := I.tuple hb
    have l1 := r1.length
    have l2 := r2.length
    refine SeqAt.eq_tupleAt (e := e) (show s.heap.IsTuple a i1.toArray from p1) (show s.heap.IsTuple c i2.toArray from p2) (by omega) (fun j h1 h2 => ?_) (fin ?_)
    · have h1' : j < i1.length := by simpa using h1
      have h2' : j < i2.length := by simpa using h2
      have q := (he j (by omega) (by omega)).at I (A := X.A.in1) (val_at r1 h1') (val_at r2 h2') (by show X.A.units + 1 + n < cLine; omega)
      simpa using q
    · rw [List.size_toArray, List.size_toArray, ← l1, ← l2]
  | @lsts n _ _ xs ys e ha hb hl he =>
    obtain ⟨i1, r1, p1, z1⟩ := I.list ha
    obtain ⟨i2, r2, p2, z2⟩ := I.list hb
    have l1 := r1.length
    have l2 := r2.length
    refine SeqAt.eq_listAt (e := e) p1.isList p2.isList (by simp; omega) (by omega) (fun j h1 h2 => ?_) (fin ?_)
    · have h1' : j < i1.length := by simpa using h1
      have h2' : j < i2.length := by simpa using h2
      have q := (he j (by omega)).at I (A := X.A.in1) (val_at r1 h1') (val_at r2 h2') (by show X.A.units + 1 + n < cLine; omega)
      simpa using q
    · rw [List.size_toArray, ← l1]
  | @lens n _ _ xs ys ha hb hl =>
    obtain ⟨i1, r1, p1, z1⟩ := I.list ha
    obtain ⟨i2, r2, p2, z2⟩ := I.list hb
    have l1 := r1.length
    have l2 := r2.length
    exact SeqAt.eq_list_lengthsAt p1.isList p2.isList (by simp; omega) (by omega) (fin rfl)
theorem op_neR (hu : X.A.units + 64 < cLine) : OpR X (compareOp .NotEq) (rEqR X.K true) := by
  intro pins s σ H x y v u Q I rx ry h
  obtain ⟨a, c, n, b, rfl, rfl, e, hn, q⟩ := h
  cases rx
  cases ry
  have fin : ∀ {k : Bool}, k = b → EP X pins σ Q (.bool (!k)) s := fun z => ⟨.bl (!b), H, I, by rw [z]; rfl, q⟩
  cases e with
  | flat fx fy => exact absurd (show false = true from fx) Bool.false_ne_true
  | @tups n _ _ xs ys e ha hb he =>
    obtain ⟨i1, r1, p1, z1⟩ := I.tuple ha
    obtain ⟨i2, r2, p2, z2⟩ := I.tuple hb
    have l1 := r1.length
    have l2 := r2.length
    refine SeqAt.RcNeAt.tuples (e := e) (show s.heap.IsTuple a i1.toArray from p1) (show s.heap.IsTuple c i2.toArray from p2) (by omega) (fun j h1 h2 => ?_) _ _ _ _ (fin ?_)
    · have h1' : j < i1.length := by simpa using h1
      have h2' : j < i2.length := by simpa using h2
      have q := (he j (by omega) (by omega)).at I (A := X.A.in1) (val_at r1 h1') (val_at r2 h2') (by show X.A.units + 1 + n < cLine; omega)
      simpa using q
    · rw [List.size_toArray, List.size_toArray, ← l1, ← l2]
  | @lsts n _ _ xs ys e ha hb hl he =>
    obtain ⟨i1, r1, p1, z1⟩ := I.list ha
    obtain ⟨i2, r2, p2, z2⟩ := I.list hb
    have l1 := r1.length
    have l2 := r2.length
    refine SeqAt.RcNeAt.lists (e := e) p1.isList p2.isList (by simp; omega) (by omega) (fun j h1 h2 => ?_) _ _ _ _ (fin ?_)
    · have h1' : j < i1.length := by simpa using h1
      have h2' : j < i2.length := by simpa using h2
      have q := (he j (by omega)).at I (A := X.A.in1) (val_at r1 h1') (val_at r2 h2') (by show X.A.units + 1 + n < cLine; omega)
      simpa using q
    · rw [List.size_toArray, ← l1]
  | @lens n _ _ xs ys ha hb hl =>
    obtain ⟨i1, r1, p1, z1⟩ := I.list ha
    obtain ⟨i2, r2, p2, z2⟩ := I.list hb
    have l1 := r1.length
    have l2 := r2.length
    exact SeqAt.RcNeAt.lists_lengths p1.isList p2.isList (by simp; omega) (by omega) _ _ _ _ (fin (k := false) rfl)
end
end L2
set_option Elab.async false
set_option linter.all false
set_option maxRecDepth 100000
namespace L2
open PySem PySem.Spec PyProof.Rows PySem.W
end L2
set_option Elab.async false
set_option linter.all false
set_option maxRecDepth 100000
namespace L2
open PySem PySem.Spec PyProof.Rows
section
variable {g : TG} {tc : TT} {te : TE} {σ0 : St} {H0 : Hp} {R : List V → Hp → Prop} {K : PySem.W.Frag} {a : Addr} {xs : List V}
theorem cmp_gen {J : It} {n : Nat} (Pv : Nat → List V → St → Hp → Prop) (h0 : Pv 0 [] σ0 H0) (hz : ∀ i ys σ H, i ≤ n → Pv i ys σ H → ys.length ≤ sizeLine) (hst : ∀ ys σ H, Pv n ys σ H → J.stop n H ∧ R ys H)
    (hgo : ∀ i ys σ H, i < n → Pv i ys σ H → J.go i H ∧ ∀ x H2, J.yld i H x H2 → g x σ H2 fun σ2 H3 => tc σ2 H3 fun b H4 => if b = true then te σ2 H4 fun y H5 => Pv (i + 1) (ys ++ [y]) σ2 H5 else Pv (i + 1) ys σ2 H4) :
    ∃ W : Nat → Nat → List V → St → Hp → Prop, (∃ m, W 0 m [] σ0 H0) ∧ ∀ i m ys σ' H', W i m ys σ' H' →
      (J.stop i H' ∧ ys.length ≤ sizeLine ∧ R ys H') ∨
      (J.go i H' ∧ ys.length ≤ sizeLine ∧ ∃ N : List V → St → Hp → Prop, (∀ ys' σ2 H2, N ys' σ2 H2 → ∃ m', m' < m ∧ W (i + 1) m' ys' σ2 H2) ∧
        ∀ x H2, J.yld i H' x H2 → g x σ' H2 fun σ2 H3 => tc σ2 H3 fun b H4 => if b = true then te σ2 H4 fun y H5 => N (ys ++ [y]) σ2 H5 else N ys σ2 H4) := by
  refine ⟨fun i m ys σ H => m = n - i ∧ i ≤ n ∧ Pv i ys σ H, ⟨n, by simp, Nat.zero_le _, h0⟩, ?_⟩
  rintro i m ys σ H ⟨rfl, hi, p⟩
  by_cases hlt : i < n
  · obtain ⟨go, turn⟩ := hgo i ys σ H hlt p
    exact .inr ⟨go, hz i ys σ H hi p, Pv (i + 1), fun ys' σ' H' p' => ⟨n - (i + 1), by omega, rfl, hlt, p'⟩, turn⟩
  · have e : i = n := by omega
    subst e
    obtain ⟨st, r⟩ := hst ys σ H p
    exact .inl ⟨st, hz i ys σ H hi p, r⟩
theorem cmp_list (Pv : Nat → List V → St → Hp → Prop) (h0 : Pv 0 [] σ0 H0) (hz : ∀ i ys σ H, i ≤ xs.length → Pv i ys σ H → ys.length ≤ sizeLine ∧ SqL K H a xs) (hst : ∀ ys σ H, Pv xs.length ys σ H → R ys H)
    (hgo : ∀ i x ys σ H, xs[i]? = some x → Pv i ys σ H → g x σ H fun σ2 H3 => tc σ2 H3 fun b H4 => if b = true then te σ2 H4 fun y H5 => Pv (i + 1) (ys ++ [y]) σ2 H5 else Pv (i + 1) ys σ2 H4) :
    ∃ W : Nat → Nat → List V → St → Hp → Prop, (∃ m, W 0 m [] σ0 H0) ∧ ∀ i m ys σ' H', W i m ys σ' H' →
      ((Itl K a).stop i H' ∧ ys.length ≤ sizeLine ∧ R ys H') ∨
      ((Itl K a).go i H' ∧ ys.length ≤ sizeLine ∧ ∃ N : List V → St → Hp → Prop, (∀ ys' σ2 H2, N ys' σ2 H2 → ∃ m', m' < m ∧ W (i + 1) m' ys' σ2 H2) ∧
        ∀ x H2, (Itl K a).yld i H' x H2 → g x σ' H2 fun σ2 H3 => tc σ2 H3 fun b H4 => if b = true then te σ2 H4 fun y H5 => N (ys ++ [y]) σ2 H5 else N ys σ2 H4) :=
  cmp_gen (n := xs.length) Pv h0 (fun i ys σ H hi p => (hz i ys σ H hi p).1) (fun ys σ H p => ⟨⟨xs, (hz _ ys σ H (Nat.le_refl _) p).2, Nat.le_refl _⟩, hst ys σ H p⟩)
    fun i ys σ H hi p => ⟨⟨xs, xs[i], (hz i ys σ H (Nat.le_of_lt hi) p).2, by simp [hi]⟩, fun x H2 y => by
      obtain ⟨e, y⟩ := y
      subst e
      exact hgo i x ys σ _ (y xs (hz i ys σ _ (Nat.le_of_lt hi) p).2) p⟩
theorem cmp_tup (Pv : Nat → List V → St → Hp → Prop) (h0 : Pv 0 [] σ0 H0) (hz : ∀ i ys σ H, i ≤ xs.length → Pv i ys σ H → ys.length ≤ sizeLine ∧ SqT K H a xs) (hst : ∀ ys σ H, Pv xs.length ys σ H → R ys H)
    (hgo : ∀ i x ys σ H, xs[i]? = some x → Pv i ys σ H → g x σ H fun σ2 H3 => tc σ2 H3 fun b H4 => if b = true then te σ2 H4 fun y H5 => Pv (i + 1) (ys ++ [y]) σ2 H5 else Pv (i + 1) ys σ2 H4) :
    ∃ W : Nat → Nat → List V → St → Hp → Prop, (∃ m, W 0 m [] σ0 H0) ∧ ∀ i m ys σ' H', W i m ys σ' H' →
      ((Itt K a).stop i H' ∧ ys.length ≤ sizeLine ∧ R ys H') ∨
      ((Itt K a).go i H' ∧ ys.length ≤ sizeLine ∧ ∃ N : List V → St → Hp → Prop, (∀ ys' σ2 H2, N ys' σ2 H2 → ∃ m', m' < m ∧ W (i + 1) m' ys' σ2 H2) ∧
        ∀ x H2, (Itt K a).yld i H' x H2 → g x σ' H2 fun σ2 H3 => tc σ2 H3 fun b H4 => if b = true then te σ2 H4 fun y H5 => N (ys ++ [y]) σ2 H5 else N ys σ2 H4) :=
  cmp_gen (n := xs.length) Pv h0 (fun i ys σ H hi p => (hz i ys σ H hi p).1) (fun ys σ H p => ⟨⟨xs, (hz _ ys σ H (Nat.le_refl _) p).2, Nat.le_refl _⟩, hst ys σ H p⟩)
    fun i ys σ H hi p => ⟨⟨xs, xs[i], (hz i ys σ H (Nat.le_of_lt hi) p).2, by simp [hi]⟩, fun x H2 y => by
      obtain ⟨e, y⟩ := y
      subst e
      exact hgo i x ys σ _ (y xs (hz i ys σ _ (Nat.le_of_lt hi) p).2) p⟩
end
end L2
set_option Elab.async false
set_option linter.all false
set_option maxRecDepth 100000
namespace L2
open PySem PySem.Spec PyProof.Rows PySem.W
section
variable {X : Cx} {pins : List (Addr × Obj)} {σ : St} {H : Hp} {s : Shared}
end
end L2
set_option Elab.async false
set_option linter.all false
set_option maxRecDepth 100000
namespace L2
open PySem PySem.Spec PyProof.Rows PySem.W
def txt (l : List Nat) : Str := ⟨l.toArray⟩
theorem txt_len (l : List Nat) : (txt l).length = l.length := by simp [txt, Str.length]
theorem txt_inj {a b : List Nat} (h : txt a = txt b) : a = b := by
  have : (txt a).cps.toList = (txt b).cps.toList := by rw [h]
  simpa [txt] using this
theorem fold_reps (c : Nat) : ∀ (n : Nat) (acc : Array Nat), (List.replicate n (#[c] : Array Nat)).foldl (· ++ ·) acc = acc ++ (List.replicate n c).toArray
  | 0, acc => by simp
  | n + 1, acc => by
    rw [List.replicate_succ, List.foldl_cons, fold_reps c n (acc ++ #[c])]
    apply Array.toList_inj.mp
    simp [List.replicate_succ]
theorem mul_one_sign {c : Nat} {n : Int} (h0 : 0 ≤ n) : Txt.mul (txt [c]) n = txt (List.replicate n.toNat c) := by
  unfold Txt.mul
  by_cases h1 : n < 1
  · rw [if_pos h1]
    have e : n.toNat = 0 := by omega
    rw [e]
    rfl
  · rw [if_neg h1]
    by_cases h2 : n = 1
    · subst h2
      rfl
    · have e : (n == 1 || (txt [c]).length == 0) = false := by
        rw [beq_eq_false_iff_ne.mpr h2]
        rfl
      rw [e, if_neg Bool.false_ne_true]
      have := fold_reps c n.toNat #[]
      show (⟨(List.replicate n.toNat (#[c] : Array Nat)).foldl (· ++ ·) #[]⟩ : Str) = _
      rw [this]
      simp [txt]
section
variable {X : Cx}
theorem op_repS : OpR X (binaryOp .Mult) (fun x y H Q => ∃ (c : Nat) (n : Int), x = .str (txt [c]) ∧ y = .int n ∧ 0 ≤ n ∧ n ≤ 1000000 ∧ Q (.str (txt (List.replicate n.toNat c))) H) := by
  intro pins s σ H x y v u Q I rx ry h
  obtain ⟨c, n, rfl, rfl, h0, h1, q⟩ := h
  obtain ⟨t, rfl⟩ := rx
  obtain ⟨t', rfl⟩ := ry
  have hl : (txt [c]).length = 1 := rfl
  refine SB.mul ⟨?_, fun _ _ => ?_, fun _ _ => ?_⟩ fun tk k => ⟨.str _, H, I.tok k, ⟨tk, by rw [mul_one_sign h0]⟩, q⟩
  · rw [decide_eq_false (by omega), decide_eq_false (by omega)]
    rfl
  · rw [hl]
    have hn : 0 < n := by omega
    intro z
    have z' : (2 ^ 63 - 1) / n < 1 := by simpa using z
    have := (Int.ediv_lt_iff_lt_mul hn).mp z'
    omega
  · rw [hl]
    unfold Builtin.Str.tooLong sizeLine
    rw [decide_eq_false_iff_not]
    omega
theorem strs_vals : ∀ {zs : List Str} {us : List Value}, Vals (zs.map V.str) us → StrsAre us zs
  | [], _, .nil => .nil
  | z :: zs, _, .cons ⟨t, e⟩ r => by
    subst e
    exact .cons z t (strs_vals r)
def rIxC : R2 := fun x y H Q => ∃ (l : List Nat) (i : Int) (c : Nat), x = .str (txt l) ∧ y = .int i ∧ l.length ≤ 1000000 ∧ atI l i = some c ∧ Q (.str (txt [c])) H
theorem ix_sign : IxR X rIxC := by
  intro value slice pins s σ H x y v u Q I rx ry h hs
  obtain ⟨l, i, c, rfl, rfl, hl, hc, q⟩ := h
  exact ix_str value slice pins s σ H _ _ v u Q I rx ry ⟨txt l, i, c, rfl, rfl, by rw [txt_len]; exact Nat.le_trans hl (by decide), by simpa [txt] using hc, q⟩ hs
end
end L2
set_option Elab.async false
set_option linter.all false
set_option maxRecDepth 100000
namespace L2
open PySem PySem.Spec PyProof.Rows PySem.W
section
variable {X : Cx} {K : Frag}
theorem call_lenK (hK : X.K = K) : CallR X (.builtin "len") (fun xs H Q => ∃ p ys, xs = [.ref p] ∧ (SqL K H p ys ∨ SqT K H p ys) ∧ Q (.int ys.length) H) := by subst hK; exact call_len_seq
end
end L2
set_option Elab.async false
set_option linter.all false
namespace Lin
abbrev W := List Nat
def glue : List W → W
  | [] => []
  | [a] => a
  | a :: b :: r => a ++ 32 :: glue (b :: r)
theorem glue_snoc : ∀ (ws : List W) (w : W), ws ≠ [] → glue (ws ++ [w]) = glue ws ++ 32 :: w
  | [], _, h => absurd rfl h
  | [a], w, _ => rfl
  | a :: b :: r, w, _ => by
    have ih : glue (b :: (r ++ [w])) = glue (b :: r) ++ 32 :: w := glue_snoc (b :: r) w (by simp)
    show a ++ 32 :: glue (b :: (r ++ [w])) = (a ++ 32 :: glue (b :: r)) ++ 32 :: w
    rw [ih]
    simp
theorem snoc_ind {P : List W → Prop} (h0 : P []) (h1 : ∀ ws w, P ws → P (ws ++ [w])) : ∀ (n : Nat) (ws : List W), ws.length = n → P ws
  | 0, ws, h => by rw [List.length_eq_zero_iff.mp h]; exact h0
  | n + 1, ws, h => by
    have hn : ws ≠ [] := fun z => by rw [z] at h; cases h
    rw [← List.dropLast_concat_getLast hn]
    exact h1 _ _ (snoc_ind h0 h1 n _ (by rw [List.length_dropLast, h]; rfl))
def put (wide : Int) (rows : List W) (w : W) : List W :=
  match rows.getLast? with
  | some r => if (r.length : Int) + 1 + w.length ≤ wide then rows.dropLast ++ [r ++ 32 :: w] else rows ++ [w]
  | none => [w]
def taken (wide : Int) (ws : List W) : List W := ws.foldl (put wide) []
theorem taken_snoc (wide : Int) (ws : List W) (w : W) : taken wide (ws ++ [w]) = put wide (taken wide ws) w := by
  unfold taken
  rw [List.foldl_append]
  rfl
theorem last_split {rows : List W} {r : W} (h : rows.getLast? = some r) : rows = rows.dropLast ++ [r] := by
  have hn : rows ≠ [] := fun z => by rw [z] at h; cases h
  rw [List.getLast?_eq_some_getLast hn] at h
  rw [← Option.some.inj h]
  exact (List.dropLast_concat_getLast hn).symm
theorem put_len_le (wide : Int) (rows : List W) (w : W) : (put wide rows w).length ≤ rows.length + 1 := by
  unfold put
  split
  · rename_i r e
    split
    · have := last_split e
      have e2 : rows.length = rows.dropLast.length + 1 := by
        conv => lhs; rw [this, List.length_append]
        rfl
      rw [List.length_append, List.length_singleton]
      omega
    · simp
  · simp
theorem taken_len_le (wide : Int) (ws : List W) : (taken wide ws).length ≤ ws.length :=
  snoc_ind (P := fun ws => (taken wide ws).length ≤ ws.length) (Nat.le_refl _) (fun ws w ih => by
    rw [taken_snoc, List.length_append, List.length_singleton]
    exact Nat.le_trans (put_len_le _ _ _) (Nat.succ_le_succ ih)) _ ws rfl
section
variable {ws : List W} {wide : Int}
end
end Lin
set_option Elab.async false
set_option linter.all false
set_option maxRecDepth 100000
namespace L2
open PySem PySem.Spec PyProof.Rows PySem.W
theorem txt_app (a b : List Nat) : txt a ++ txt b = txt (a ++ b) := by
  refine Str.ext' ?_
  rw [Str.cps_append]
  simp [txt]
def Its (l : List Nat) : It := ⟨fun i _ => i < l.length, fun i H x H' => H' = H ∧ ∃ c, l[i]? = some c ∧ x = .str (txt [c]), fun i _ => l.length ≤ i⟩
theorem turn_ascii {P : Program} {w : World} {K : PySem.W.Frag} {tg : Expr} (it : Addr) (l : List Nat) (t : Tok) : Turn P w K tg (Its l) [it] it (fun i h => h.IsStrIter it "str_ascii_iterator" (txt l) t i) where
  mem := by simp
  obj := fun i h st b hb => by
    have e : b = it := by simpa using hb
    subst e
    obtain ⟨o, e, c, d⟩ := st
    exact ⟨o, e, fun v z => by rw [d] at z; cases z⟩
  keep := fun i h h' st k => let ⟨o, ho, r⟩ := st; ⟨o, k it (by simp) o ho, r⟩
  item := by
    intro X hP hw hK hc i pins s σ H E I hf st hg
    subst hP hw hK
    obtain ⟨f0, f1, f2, f3, f4, f5⟩ := hf it (by simp)
    have hg : i < l.length := hg
    refine wpAny_pyNext_ascii_item st (c := l[i]) (by simp [txt, hg]) fun h' st' sb => ?_
    have I1 : Inv X pins σ H { s with heap := h', toks := s.toks + 1 } := I.turned (t' := s.toks + 1) (fun b o hb e => (sb.2 b hb).trans e) f0 f1 f3 f4 f5
    obtain ⟨o, e, c, d⟩ := id st'
    exact ⟨_, rfl, go_of (s := { s with heap := h', toks := s.toks + 1 }) e c d (by decide) ⟨.str (txt [l[i]]), H, I1, ⟨_, rfl⟩, ⟨rfl, l[i], List.getElem?_eq_getElem hg, rfl⟩, st', fun b hb => (hf b hb).1⟩⟩
  done := by
    intro X hP hw hK hc i pins s σ H E I hf st hg
    subst hP hw hK
    obtain ⟨f0, f1, f2, f3, f4, f5⟩ := hf it (by simp)
    have hg : l.length ≤ i := hg
    exact wpAny_pyNext_ascii_end (I.ok.hd hc) st (by simp [txt, hg]) fun h' eb => ⟨rfl, I.turned (t' := s.toks) (fun b o hb e => eb b o hb e) f0 f1 f3 f4 f5⟩
  self := fun _ _ _ _ _ st h => wpAny_pyIter_striter_ascii st h
section
variable {X : Cx} {tg : Expr}
def iTxt (tl : TE) : TI := fun σ H R => tl σ H fun x H1 => ∃ l : List Nat, x = .str (txt l) ∧ (∀ c ∈ l, c < 128) ∧ R (Its l) H1
theorem pi_txt {l : Expr} {tl : TE} (hl : PE X l tl) : PI X tg l (iTxt tl) := by
  intro pins s σ H R I h
  refine thn (hl pins s σ H _ I h) fun v s1 ⟨x, H1, I1, r1, q1⟩ => ?_
  obtain ⟨l, e, ha, q⟩ := q1
  subst e
  obtain ⟨t, rfl⟩ := r1
  refine wpAny_pyIter_ascii (by simpa [txt] using ha) ?_
  refine ⟨s1.heap.objs.size, [s1.heap.objs.size], _, _, H1, rfl, I1.kept (t' := s1.toks) fun b o e => Heap.get?_push_of_some _ e, turn_ascii _ l t, ⟨_, Heap.get?_push_size _ rfl, rfl, rfl⟩, fun b hb => ?_, q⟩
  have e : b = s1.heap.objs.size := by simpa using hb
  subst e
  exact I1.fpOk (Nat.le_refl _) (I1.hok.fresh (Nat.le_refl _))
theorem op_le_str : OpR X (compareOp .LtE) (fun x y H Q => ∃ i j, x = .str i ∧ y = .str j ∧ Q (.bl (!decide (j.cps.toList < i.cps.toList))) H) := by
  intro pins s σ H x y v u Q I rx ry h
  obtain ⟨i, j, rfl, rfl, q⟩ := h
  obtain ⟨t, rfl⟩ := rx
  obtain ⟨t', rfl⟩ := ry
  exact PySem.P.le_str (fin_bl I q rfl)
theorem join_glue : ∀ (ls : List (List Nat)), Str.join (txt [32]) (ls.map txt) = txt (Lin.glue ls)
  | [] => rfl
  | [a] => rfl
  | a :: b :: r => by
    have ih := join_glue (b :: r)
    show txt a ++ txt [32] ++ Str.join (txt [32]) ((b :: r).map txt) = _
    rw [ih, txt_app, txt_app]
    simp [Lin.glue]
theorem mt_joinB : MtR X "str.join" (fun x vs H Q => ∃ (a : Addr) (ls : List (List Nat)), x = .str " " ∧ vs = [.ref a] ∧ SqL X.K H a (ls.map fun l => V.str (txt l)) ∧ (ls.map List.length).sum + ls.length ≤ 1000000 ∧ Q (.str (txt (Lin.glue ls))) H) := by
  intro pins s σ H x xs v us Q I rx rxs h
  obtain ⟨a, ls, rfl, rfl, hq, hn, q⟩ := h
  obtain ⟨t, rfl⟩ := rx
  obtain ⟨u, rfl, ru⟩ := vals1 rxs
  cases ru
  obtain ⟨its, rv, tp, hz⟩ := I.list hq
  have rv' : Vals ((ls.map txt).map V.str) its := by rw [List.map_map]; exact rv
  refine join_list (ys := ls.map txt) tp.isList (by simpa using strs_vals rv') ?_ fun t' k => ⟨.str _, H, I.tok k, ⟨t', ?_⟩, q⟩
  · rw [List.map_map]
    have e1 : (ls.map ((fun x => x.length) ∘ txt)) = ls.map List.length := List.map_congr_left fun l _ => txt_len l
    rw [e1]
    have e2 : (" " : Str).length = 1 := rfl
    rw [e2, List.length_map]
    omega
  · show Value.str (Txt.join " " (ls.map txt)) t' = _
    have e : Txt.join " " (ls.map txt) = txt (Lin.glue ls) := by
      unfold Txt.join
      rw [StrLaws.glued_eq_join]
      exact join_glue ls
    rw [e]
end
section
variable {g : TG} {tc : TT} {te : TE} {σ0 : St} {H0 : Hp} {R : List V → Hp → Prop} {l : List Nat}
theorem cmp_txt (Pv : Nat → List V → St → Hp → Prop) (h0 : Pv 0 [] σ0 H0) (hz : ∀ i ys σ H, i ≤ l.length → Pv i ys σ H → ys.length ≤ sizeLine) (hst : ∀ ys σ H, Pv l.length ys σ H → R ys H)
    (hgo : ∀ i c ys σ H, l[i]? = some c → Pv i ys σ H → g (.str (txt [c])) σ H fun σ2 H3 => tc σ2 H3 fun b H4 => if b = true then te σ2 H4 fun y H5 => Pv (i + 1) (ys ++ [y]) σ2 H5 else Pv (i + 1) ys σ2 H4) :
    ∃ W : Nat → Nat → List V → St → Hp → Prop, (∃ m, W 0 m [] σ0 H0) ∧ ∀ i m ys σ' H', W i m ys σ' H' →
      ((Its l).stop i H' ∧ ys.length ≤ sizeLine ∧ R ys H') ∨
      ((Its l).go i H' ∧ ys.length ≤ sizeLine ∧ ∃ N : List V → St → Hp → Prop, (∀ ys' σ2 H2, N ys' σ2 H2 → ∃ m', m' < m ∧ W (i + 1) m' ys' σ2 H2) ∧
        ∀ x H2, (Its l).yld i H' x H2 → g x σ' H2 fun σ2 H3 => tc σ2 H3 fun b H4 => if b = true then te σ2 H4 fun y H5 => N (ys ++ [y]) σ2 H5 else N ys σ2 H4) :=
  cmp_gen (n := l.length) Pv h0 hz (fun ys σ H p => ⟨Nat.le_refl _, hst ys σ H p⟩) fun i ys σ H hi p => ⟨hi, fun x H2 y => by
    obtain ⟨e, c, hc, ex⟩ := y
    subst e ex
    exact hgo i c ys σ _ hc p⟩
end
section
variable {σ : St} {H : Hp} {ta tb : TE}
theorem evl_lenS {w : List Nat} (a : Evl ta σ H (.str (txt w))) (h : w.length ≤ 1000000) : Evl (tCB (fun xs H Q => ∃ z : Str, xs = [.str z] ∧ z.length ≤ sizeLine ∧ Q (.int z.length) H) (tCons ta tNil)) σ H (.int (w.length : Nat)) := fun Q q =>
  a _ ⟨txt w, rfl, by rw [txt_len]; exact Nat.le_trans h (by decide), by rw [txt_len]; exact q⟩
theorem evl_addS {u w : List Nat} (a : Evl ta σ H (.str (txt u))) (b : Evl tb σ H (.str (txt w))) (h : u.length + w.length ≤ 1000000) : Evl (tOp (fun x y H Q => ∃ i j, x = .str i ∧ y = .str j ∧ i.length + j.length ≤ sizeLine ∧ Q (.str (i ++ j)) H) ta tb) σ H (.str (txt (u ++ w))) := fun Q q =>
  a _ (b _ ⟨txt u, txt w, rfl, rfl, by rw [txt_len, txt_len]; exact Nat.le_trans h (by decide), by rw [txt_app]; exact q⟩)
theorem tst_andL {t u : TT} {p q : Prop} [Decidable p] [Decidable q] (a : Tst t σ H p) (b : p → Tst u σ H q) : Tst (tAnd t u) σ H (p ∧ q) := fun Q z => a _ (by
  by_cases h : p
  · rw [decide_eq_true h, if_pos rfl]
    refine b h _ ?_
    have e : decide (p ∧ q) = decide q := by rw [decide_eq_decide]; exact ⟨fun z => z.2, fun z => ⟨h, z⟩⟩
    rw [← e]; exact z
  · rw [decide_eq_false h, if_neg Bool.false_ne_true]
    have e : decide (p ∧ q) = false := decide_eq_false fun z => h z.1
    rw [← e]; exact z)
theorem while_n {c : TT} {tb : TS} {D : Ends} (Pv : Nat → St → Hp → Prop) (m0 : Nat) (h0 : Pv m0 σ H)
    (hs : ∀ m σ H, Pv m σ H → ∃ (p : Prop) (_ : Decidable p), Tst c σ H p ∧ (p → tb { D with nx := fun σ' H' => ∃ m', m' < m ∧ Pv m' σ' H', ct := fun σ' H' => ∃ m', m' < m ∧ Pv m' σ' H', bk := D.nx } σ H) ∧ (¬ p → D.nx σ H)) : tWhile c tb D σ H := by
  refine ⟨Pv, ⟨m0, h0⟩, fun m σ H p => ?_⟩
  obtain ⟨q, dq, t, h1, h2⟩ := hs m σ H p
  refine t _ ?_
  by_cases z : q
  · rw [decide_eq_true z, if_pos rfl]
    exact ⟨_, fun _ _ y => y, h1 z⟩
  · rw [decide_eq_false z, if_neg Bool.false_ne_true]
    exact h2 z
theorem seq_key {t u : TS} {D : Ends} (R : St → Hp → Prop) (h3 : ∀ σ H, R σ H → u D σ H) (h : (∀ σ H, R σ H → u D σ H) → t { D with nx := u D } σ H) : tSeq t u D σ H := h h3
theorem run_gname {i : Nat} {v : V} {Q : St → Hp → Prop} (h : Q (σ.set i (some v)) H) : gName i v σ H Q := h
theorem seq_lst {t : TA} {i : Nat} {u : TS} {D : Ends} (h : t σ H fun xs H1 => xs.length ≤ sizeLine ∧ ∀ p, H1 p = none → u D (σ.set i (some (.ref p))) (upd H1 p (.lst xs))) : tSeq (tAsg (tLst t) (gName i)) u D σ H := h
end
end L2
set_option Elab.async false
set_option linter.all false
set_option maxRecDepth 100000
namespace L2
open PySem PySem.Spec PyProof.Rows PySem.W
section
variable {P : Program} {w : World} {K : PySem.W.Frag} {mg : Str → Option Value} {base : Heap} {N : List Str} {qual : Str} {scope : Scope} {f : Addr} {cd : Value} {A : Around} {outer : List Env} {s₀ : Shared} {H₀ : Hp} {E : XK}
theorem passEE : Passes (CXE P w) (cxOf (CXE P w) P w K mg base N qual scope f cd A outer s₀ H₀ E) E := by
  intro pins σ H s e s' I q
  obtain ⟨ea, T, C, H', rfl, os, bare, un, hok, fly, q⟩ := q
  have I2 : Inv (cxOf (CXE P w) P w K mg base N qual scope f cd A outer s₀ H₀ E) pins σ H' s' := I.call' (ch := []) os un hok bare (fun b z => nomatch z)
  obtain ⟨oe, vs, a0, oT, ts, e1, e2, e3, e4, e5, e6, e7, e8⟩ := fly.ob
  have no0 : ∀ b, s.heap.get? b = none → s₀.heap.get? b = none := fun b z => by
    cases y : s₀.heap.get? b with
    | none => rfl
    | some o =>
      obtain ⟨o', z'⟩ := I.base.there b o y (fun m => nomatch m)
      rw [z] at z'
      cases z'
  have no2 : ∀ b, s'.heap.get? b = none → s₀.heap.get? b = none := fun b z => by
    cases y : s₀.heap.get? b with
    | none => rfl
    | some o =>
      obtain ⟨o', z'⟩ := I2.base.there b o y (fun m => nomatch m)
      rw [z] at z'
      cases z'
  have ff : s'.heap.FunFrames (hideAll s'.heap (ea :: T :: frs (envOfC qual scope s₀.heap.objs.size f cd :: outer))) (envOfC qual scope s₀.heap.objs.size f cd :: outer) := I2.hid _ fun b hb => List.mem_cons_of_mem _ (List.mem_cons_of_mem _ hb)
  have fl : Heap.FlyingW (hideAll s'.heap (ea :: T :: frs (envOfC qual scope s₀.heap.objs.size f cd :: outer))) (envOfC qual scope s₀.heap.objs.size f cd :: outer) ea (.ref C) a0 s'.heap :=
    ⟨fun b o z => of_hideAll _ z, hideAll_none _ List.mem_cons_self, ff, oe, vs, T, oT, ts, e1, ⟨e2, e4⟩, e3, e5, hideAll_none _ (List.mem_cons_of_mem _ List.mem_cons_self), fly.ne, e6, e7, e8⟩
  show wpAny _ _ (leaving _ _) _ _ _
  refine wpAny_leaves_onW I2.ok.frames rfl fl fun h2 fl2 up => ?_
  have inB : ∀ b o, b ≠ ea → b ≠ T → b ∉ frs (envOfC qual scope s₀.heap.objs.size f cd :: outer) → s'.heap.get? b = some o → h2.get? b = some o := fun b o n1 n2 nb z => fl2.1 b o (hideAll_get _ z (by
    intro m
    rcases List.mem_cons.mp m with m | m
    · exact n1 m
    · rcases List.mem_cons.mp m with m | m
      · exact n2 m
      · exact nb m))
  have upS : ∀ b o, b ∈ frs (envOfC qual scope s₀.heap.objs.size f cd :: outer) → s'.heap.get? b = some o → ∃ sl, h2.get? b = some { o with slots := sl } := fun b o nb z => by
    obtain ⟨_, o', z', hd⟩ := I2.stack.mem nb
    rw [z] at z'
    cases z'
    exact up b o z hd
  have notL : ∀ b o, s₀.heap.get? b = some o → b ∉ frs outer → b ∉ frs (envOfC qual scope s₀.heap.objs.size f cd :: outer) := fun b o z nb m => by
    rcases List.mem_cons.mp (I2.stkSub b m) with z' | z'
    · have := Heap.lt_size z
      have z' : b = s₀.heap.objs.size := z'
      rw [z'] at this
      exact Nat.lt_irrefl _ this
    · exact nb z'
  have neE : ∀ b o, s₀.heap.get? b = some o → b ≠ ea ∧ b ≠ T := fun b o z => ⟨(fun y => by rw [y, no0 _ fly.ne0] at z; cases z), (fun y => by rw [y, no0 _ fly.nT0] at z; cases z)⟩
  obtain ⟨_, _, _, oe', vs', T', oT', ts', a1, ⟨a2, a3⟩, a4, a5, a6, a7, a8, a9, a10⟩ := fl2
  have hT' : T' = T ∨ s'.heap.get? T' = none := by
    by_cases hTT : T' = T
    · exact .inl hTT
    · right
      cases z : s'.heap.get? T' with
      | none => rfl
      | some o =>
        by_cases hb : T' ∈ frs (envOfC qual scope s₀.heap.objs.size f cd :: outer)
        · obtain ⟨_, o', z', hd⟩ := I2.stack.mem hb
          obtain ⟨sl, z2⟩ := upS T' o hb z
          rw [z] at z'
          cases z'
          rw [a8] at z2
          cases z2
          exact absurd a9 (hd ts')
        · rw [hideAll_get _ z (by
            intro m
            rcases List.mem_cons.mp m with m | m
            · exact a7 m
            · rcases List.mem_cons.mp m with m | m
              · exact hTT m
              · exact hb m)] at a6
          cases a6
  have fT' : H' T' = none := by
    rcases hT' with e | e
    · rw [e]; exact fly.fT
    · exact I2.none_of e
  have nT' : s₀.heap.get? T' = none := by
    rcases hT' with e | e
    · rw [e]; exact no0 _ fly.nT0
    · exact no2 _ e
  refine ⟨ea, T', C, H', rfl, I2.os, I2.bare, ⟨fun b o z n nb _ => ?_, fun b o z n nb _ => ?_, fun b o z n _ => I2.base.free b o z n (fun m => nomatch m), fun b o z _ => ?_, I2.base.tups, I2.base.frzs, I2.base.tbls⟩, fun a o z => ?_,
    ⟨⟨oe', vs', a0, oT', ts', a1, a2, a4, a3, a5, a8, a9, a10⟩, a7, fly.fe, fT', no0 _ fly.ne0, nT'⟩, q⟩
  · exact inB b o (neE b o z).1 (neE b o z).2 (notL b o z nb) (I2.base.keep b o z n nb (fun m => nomatch m))
  · obtain ⟨sl, z1⟩ := I2.base.slot b o z n nb (fun m => nomatch m)
    obtain ⟨sl', z2⟩ := upS b _ (by
      show b ∈ frs _
      unfold frs
      rw [List.filterMap_cons]
      exact List.mem_cons_of_mem _ nb) z1
    exact ⟨sl', z2⟩
  · obtain ⟨o', z'⟩ := I2.base.there b o z (fun m => nomatch m)
    by_cases hb : b ∈ frs (envOfC qual scope s₀.heap.objs.size f cd :: outer)
    · obtain ⟨sl, z2⟩ := upS b o' hb z'
      exact ⟨_, z2⟩
    · exact ⟨o', inB b o' (neE b o z).1 (neE b o z).2 hb z'⟩
  · refine (I2.hok a o z).stay (fun b u hb r => ?_) (fun _ y => y) fun _ _ y => y
    have hbH : ∃ x, H' b = some x := by
      rcases hb with rfl | hb
      · exact ⟨_, z⟩
      · exact ⟨_, hb⟩
    obtain ⟨x, hx⟩ := hbH
    refine inB b u (fun m => ?_) (fun m => ?_) (fun m => ?_) r
    · rw [m, fly.fe] at hx; cases hx
    · rw [m, fly.fT] at hx; cases hx
    · have := I2.stkFree b m
      rw [hx] at this
      cases this
end
end L2
set_option Elab.async false
set_option linter.all false
set_option maxRecDepth 100000
namespace L2
open PySem PySem.Spec PyProof.Rows
section
variable {g : TG} {tc : TT} {te : TE} {σ0 : St} {H0 : Hp} {R : List V → Hp → Prop} {K : PySem.W.Frag} {a b : Addr} {xs ys : List V}
end
end L2
set_option Elab.async false
set_option linter.all false
set_option maxRecDepth 100000
namespace Lin
theorem app_inj : ∀ {a b : W} {x y : W}, 32 ∉ a → 32 ∉ b → a ++ 32 :: x = b ++ 32 :: y → a = b ∧ x = y
  | [], [], x, y, _, _, h => by cases h; exact ⟨rfl, rfl⟩
  | [], c :: b, x, y, _, hb, h => by
    cases h
    exact absurd List.mem_cons_self hb
  | c :: a, [], x, y, ha, _, h => by
    cases h
    exact absurd List.mem_cons_self ha
  | c :: a, d :: b, x, y, ha, hb, h => by
    have h : c :: (a ++ 32 :: x) = d :: (b ++ 32 :: y) := h
    injection h with h1 h2
    obtain ⟨e1, e2⟩ := app_inj (fun z => ha (List.mem_cons_of_mem _ z)) (fun z => hb (List.mem_cons_of_mem _ z)) h2
    exact ⟨by rw [h1, e1], e2⟩
theorem glue_inj : ∀ (A B : List W), A ≠ [] → B ≠ [] → (∀ a ∈ A, 32 ∉ a) → (∀ b ∈ B, 32 ∉ b) → glue A = glue B → A = B
  | [], _, h, _, _, _, _ => absurd rfl h
  | _, [], _, h, _, _, _ => absurd rfl h
  | [a], [b], _, _, _, _, h => by
    have h : a = b := h
    rw [h]
  | [a], b :: c :: r, _, _, ha, _, h => by
    have h : a = b ++ 32 :: glue (c :: r) := h
    exact absurd (by rw [h]; simp) (ha a List.mem_cons_self)
  | a :: c :: r, [b], _, _, _, hb, h => by
    have h : a ++ 32 :: glue (c :: r) = b := h
    exact absurd (by rw [← h]; simp) (hb b List.mem_cons_self)
  | a :: c :: r, b :: d :: t, _, _, ha, hb, h => by
    have h : a ++ 32 :: glue (c :: r) = b ++ 32 :: glue (d :: t) := h
    obtain ⟨e1, e2⟩ := app_inj (ha a List.mem_cons_self) (hb b List.mem_cons_self) h
    rw [e1, glue_inj (c :: r) (d :: t) (by simp) (by simp) (fun z hz => ha z (List.mem_cons_of_mem _ hz)) (fun z hz => hb z (List.mem_cons_of_mem _ hz)) e2]
end Lin
namespace L2
open PySem PySem.Spec PyProof.Rows PySem.Builtin PySem.Builtin.Str Lin
theorem txt_toList (p : Str) : txt p.cps.toList = p := by
  refine Str.ext' ?_
  simp [txt]
theorem split_glue {ws : List W} (hn : ws ≠ []) (hw : ∀ w ∈ ws, w ≠ [] ∧ 32 ∉ w) : Txt.split (txt (glue ws)) (txt [32]) = ws.map txt := by
  have j := StrLaws.join_split (txt (glue ws)) (txt [32])
  have fr := StrLaws.split_free (txt (glue ws)) 32
  have fr : ∀ p ∈ Txt.split (txt (glue ws)) (txt [32]), 32 ∉ p.cps.toList := fr
  generalize Txt.split (txt (glue ws)) (txt [32]) = ps at j fr
  have e : (ps.map fun p => p.cps.toList).map txt = ps := by
    rw [List.map_map]
    conv => rhs; rw [← List.map_id ps]
    exact List.map_congr_left fun p _ => txt_toList p
  rw [← e, join_glue] at j
  have j := txt_inj j
  have ne : (ps.map fun p => p.cps.toList) ≠ [] := fun z => by
    rw [z] at j
    match ws, hn, hw, j with
    | [a], _, hw, j => exact (hw a List.mem_cons_self).1 j.symm
    | a :: b :: r, _, hw, j =>
      have j : [] = a ++ 32 :: glue (b :: r) := j
      exact absurd j.symm (by simp)
  have q := glue_inj _ _ ne hn (fun a ha => by
    obtain ⟨p, hp, rfl⟩ := List.mem_map.mp ha
    exact fr p hp) (fun b hb => (hw b hb).2) j
  rw [← q, e]
theorem vals_strs : ∀ {l : List (Str × Tok)} {ws : List W}, l.map (·.1) = ws.map txt → Vals (ws.map fun w => V.str (txt w)) (strValues l)
  | [], [], _ => .nil
  | [], _ :: _, h => nomatch h
  | _ :: _, [], h => nomatch h
  | (x, t) :: l, w :: ws, h => by
    injection h with h1 h2
    have h1 : x = txt w := h1
    subst h1
    exact .cons ⟨t, rfl⟩ (vals_strs h2)
section
variable {X : Cx}
theorem mt_splitB : MtR X "str.split" (fun x vs H Q => ∃ ws : List W, x = .str (txt (glue ws)) ∧ vs = [.str " "] ∧ ws ≠ [] ∧ (∀ w ∈ ws, w ≠ [] ∧ 32 ∉ w) ∧ (glue ws).length ≤ 1000000 ∧ ws.length ≤ 1000000 ∧ ∀ l, H l = none → Q (.ref l) (upd H l (.lst (ws.map fun w => V.str (txt w))))) := by
  intro pins s σ H x xs v us Q I rx rxs h
  obtain ⟨ws, rfl, rfl, hn, hw, hl, hl2, q⟩ := h
  obtain ⟨t, rfl⟩ := rx
  obtain ⟨z, rfl, u, rfl⟩ := vals1 rxs
  have eb : (" " : Str) = txt [32] := by decide +kernel
  rw [eb]
  have hs := split_glue hn hw
  have hx : (txt (glue ws)).length ≤ 1000000 := by rw [txt_len]; exact hl
  have big : (1000002 : Nat) ≤ sizeLine := by decide
  generalize txt (glue ws) = x at hs hx
  have hy : ((txt [32]).length == 0) = false := by decide +kernel
  have fin : ∀ (l : List (Str × Tok)) (k : Nat), l.map (·.1) = Txt.split x (txt [32]) → EP X pins σ Q (.ref s.heap.objs.size) { s with heap := s.heap.push { cls := .type "list", data := .seq (strValues l).toArray }, toks := k } := fun l k e =>
    ⟨.ref s.heap.objs.size, _, I.laid (t' := k) (fun b u e => Heap.get?_push_of_some _ e) (Nat.le_refl _) (show ObjOk X.prog X.w _ _ _ (.lst (ws.map fun w => V.str (txt w))) from ⟨by rw [List.length_map]; omega, strValues l, _, vals_strs (e.trans hs), Heap.get?_push_size _ rfl⟩), rfl, q _ (I.hok.fresh (Nat.le_refl _))⟩
  have hnn : (partsBetween x (occurrences x (txt [32]) 0 x.length (x.length + 1)) (txt [32]).length).length ≤ sizeLine := by
    have e1 := StrLaws.occ_length_le x (txt [32]) 0 x.length (x.length + 1)
    rw [length_partsBetween]
    omega
  cases h1 : (decide (x.length < (txt [32]).length) || decide (strKind x < strKind (txt [32])))
  · cases hf : (occurrences x (txt [32]) 0 x.length (x.length + 1)).isEmpty
    · refine call_meets F.slot_str_split (typeIs_str _ _ _) F.entry_str_split (F.args_str_split_2 _ _) (meets_str_split_sep x (txt [32]) t u h1 hy hf (by omega) hnn) ?_
      show wants _ _ _ { s with toks := _, heap := s.heap.push { cls := .type "list", data := .seq (strsFrom s.toks (partsBetween x (occurrences x (txt [32]) 0 x.length (x.length + 1)) (txt [32]).length)).toArray } }
      rw [strsFrom_eq]
      exact fin (numbered s.toks _) _ ((numbered_texts _ _).trans ((if_neg (ne_true_of_eq_false h1)).trans (if_neg (ne_true_of_eq_false hf))).symm)
    · exact call_meets F.slot_str_split (typeIs_str _ _ _) F.entry_str_split (F.args_str_split_2 _ _) (meets_str_split_not_found x (txt [32]) t u h1 hy hf)
        (fin [(x, t)] s.toks ((if_neg (ne_true_of_eq_false h1)).trans (if_pos hf)).symm)
  · exact call_meets F.slot_str_split (typeIs_str _ _ _) F.entry_str_split (F.args_str_split_2 _ _) (meets_str_split_cannot_occur x (txt [32]) t u h1)
      (fin [(x, t)] s.toks (if_pos h1).symm)
end
end L2
set_option Elab.async false
set_option linter.all false
set_option maxRecDepth 100000
namespace L2
open PySem PySem.Spec PyProof.Rows
theorem vals_pick {xs : List V} {us : List Value} (h : Vals xs us) : ∀ ix : List Nat, Vals (ix.filterMap (xs[·]?)) (ix.filterMap (us[·]?))
  | [] => .nil
  | i :: ix => by
    rw [List.filterMap_cons, List.filterMap_cons]
    have hl := h.length
    cases e : xs[i]? with
    | none =>
      have e2 : us[i]? = none := by
        rw [List.getElem?_eq_none_iff] at e ⊢
        omega
      rw [e2]
      exact vals_pick h ix
    | some x =>
      obtain ⟨u, hu, ru⟩ := h.get e
      rw [hu]
      exact .cons ru (vals_pick h ix)
section
variable {X : Cx}
def tStep (K : PySem.W.Frag) (te ta tb tc : TE) : TE := fun σ H Q => te σ H fun x H1 => ta σ H1 fun y1 H2 => tb σ H2 fun y2 H3 => tc σ H3 fun y3 H4 =>
  ∃ i j k a xs, y1 = .int i ∧ y2 = .int j ∧ y3 = .int k ∧ k ≠ 0 ∧ x = .ref a ∧ SqL K H4 a xs ∧ ∀ (ys : List V) (p : Addr), (∀ y ∈ ys, y ∈ xs) → ys.length ≤ xs.length → H4 p = none → Q (.ref p) (upd H4 p (.lst ys))
theorem pe_step {e a b c : Expr} {te ta tb tc : TE} {p2 pos : Pos} (he : PE X e te) (ha : PE X a ta) (hb : PE X b tb) (hc : PE X c tc) : PE X (.Subscript e (.Slice (some a) (some b) (some c) p2) pos) (tStep X.K te ta tb tc) := by
  intro pins s σ H Q I h
  refine Subscript_ (thn (he pins s σ H _ I h) fun v s1 ⟨x, H1, I1, r1, q1⟩ => ?_)
  refine wpAny_Slice ?_
  rw [evalPart_some]
  refine thn (ha pins s1 σ H1 _ I1 q1) fun v1 s2 ⟨y1, H2, I2, r2, q2⟩ => ?_
  rw [evalPart_some]
  refine thn (hb pins s2 σ H2 _ I2 q2) fun v2 s3 ⟨y2, H3, I3, r3, q3⟩ => ?_
  rw [evalPart_some]
  refine thn (hc pins s3 σ H3 _ I3 q3) fun v3 s4 ⟨y3, H4, I4, r4, i, j, k, l, xs, e1, e2, e3, hk, ex, hx, q⟩ => ?_
  subst e1 e2 e3 ex
  obtain ⟨t1, rfl⟩ := r2
  obtain ⟨t2, rfl⟩ := r3
  obtain ⟨t3, rfl⟩ := r4
  cases r1
  have I5 : Inv X pins σ H4 { s4 with heap := s4.heap.push { cls := .type "slice", data := .fields #[.int i t1, .int j t2, .int k t3] } } := I4.kept (t' := s4.toks) fun b ob q => Heap.get?_push_of_some _ q
  obtain ⟨its, r, ht, hz⟩ := I5.list hx
  have hlen := r.length
  refine tail_any (ops := [.ref l, .ref s4.heap.objs.size]) ht.isList.typeIs slot_list_getitem.lookup ?_ (by with_unfolding_all rfl)
  refine wpAny_getItem_list_slice ht.isList (Heap.IsSliceOf.new ..) (.int i t1) (.int j t2) (.int k t3) (by simpa using hk) ?_ (by rw [List.size_toArray] <;> omega)
  have hp : ∃ ix : List Nat, slicePick its.toArray (some i) (some j) (some k) = (ix.filterMap (its[·]?)).toArray := ⟨_, by unfold slicePick; simp only [List.getElem?_toArray]; rfl⟩
  have hz2 := slicePick_size_le its.toArray (some i) (some j) (some k)
  obtain ⟨ix, e⟩ := hp
  rw [e] at hz2 ⊢
  have vp := vals_pick r ix
  have lp := vp.length
  have le : (ix.filterMap (xs[·]?)).length ≤ xs.length := by
    rw [lp]
    simp only [List.size_toArray] at hz2
    omega
  refine ⟨.ref _, _, I5.laid (t' := s4.toks) (o := .lst (ix.filterMap (xs[·]?))) (fun b ob q => Heap.get?_push_of_some _ q) (Nat.le_refl _) ⟨by omega, _, 0, vp, Heap.get?_push_size _ rfl⟩, rfl, q _ _ (fun y hy => ?_) le (I5.hok.fresh (Nat.le_refl _))⟩
  obtain ⟨n, _, hn⟩ := List.mem_filterMap.mp hy
  exact List.mem_of_getElem? hn
theorem call_sumG (hc : X.calm = true) : CallR X (.builtin "sum") (fun xs H Q => ∃ (a : Addr) (ns : List Int), xs = [.ref a] ∧ SqL X.K H a (ns.map V.int) ∧ Q (.int ns.sum) H) := by
  intro pins s σ H xs us Q I r h
  obtain ⟨a, ns, rfl, hq, q⟩ := h
  obtain ⟨u, rfl, ru⟩ := vals1 r
  cases ru
  obtain ⟨its, rv, tp, hz⟩ := I.list hq
  have hl := rv.length
  rw [List.length_map] at hl
  refine call_sum_walkG (lst_walk' I tp.isList hc fun s2 e W st hfp => ?_)
  subst e
  refine ⟨_, _, _, _, _, _, fun i => ns.getD i 0, rfl, W, st, hfp, nums_of rv, fun h' tk t' hk => ?_⟩
  refine ⟨.int ns.sum, H, I.kept (t' := tk) fun b o e => hk b o (fun m => ?_) (Heap.get?_push_of_some _ e), ⟨t', ?_⟩, q⟩
  · have := Heap.lt_size e
    rw [List.mem_singleton.mp m] at this
    exact Nat.lt_irrefl _ this
  · rw [List.size_toArray, ← hl, preSum_take ns _ (Nat.le_refl _), List.take_length]
end
end L2
set_option Elab.async false
set_option linter.all false
namespace Lin
def putG (wide : Int) (gs : List (List W)) (v : W) : List (List W) :=
  match gs.getLast? with
  | some g => if ((glue g).length : Int) + 1 + v.length ≤ wide then gs.dropLast ++ [g ++ [v]] else gs ++ [[v]]
  | none => [[v]]
def grp (wide : Int) (ws : List W) : List (List W) := ws.foldl (putG wide) []
theorem grp_snoc (wide : Int) (ws : List W) (v : W) : grp wide (ws ++ [v]) = putG wide (grp wide ws) v := by
  unfold grp
  rw [List.foldl_append]
  rfl
theorem putG_last (wide : Int) (R : List (List W)) (g : List W) (v : W) : putG wide (R ++ [g]) v = if ((glue g).length : Int) + 1 + v.length ≤ wide then R ++ [g ++ [v]] else R ++ [g] ++ [[v]] := by
  unfold putG
  rw [List.getLast?_concat, List.dropLast_concat]
theorem nil_or_snoc {α : Type} (l : List α) : l = [] ∨ ∃ r a, l = r ++ [a] := by
  by_cases h : l = []
  · exact .inl h
  · exact .inr ⟨_, _, (List.dropLast_concat_getLast h).symm⟩
theorem grp_ne (wide : Int) (ws : List W) : (∀ g ∈ grp wide ws, g ≠ []) ∧ (ws ≠ [] → grp wide ws ≠ []) :=
  snoc_ind (P := fun ws => (∀ g ∈ grp wide ws, g ≠ []) ∧ (ws ≠ [] → grp wide ws ≠ [])) ⟨fun g hg => (List.not_mem_nil hg).elim, fun h => absurd rfl h⟩ (fun ws v ih => by
    rw [grp_snoc]
    rcases nil_or_snoc (grp wide ws) with e | ⟨R, g, e⟩
    · rw [e]
      exact ⟨fun g hg => by rw [List.mem_singleton.mp hg]; simp, fun _ => by simp [putG]⟩
    · rw [e] at ih ⊢
      rw [putG_last]
      split
      · refine ⟨fun h hh => ?_, fun _ => by simp⟩
        rcases List.mem_append.mp hh with m | m
        · exact ih.1 h (List.mem_append_left _ m)
        · rw [List.mem_singleton.mp m]; simp
      · refine ⟨fun h hh => ?_, fun _ => by simp⟩
        rcases List.mem_append.mp hh with m | m
        · exact ih.1 h m
        · rw [List.mem_singleton.mp m]; simp) _ ws rfl
theorem grp_glue (wide : Int) (ws : List W) : (grp wide ws).map glue = taken wide ws :=
  snoc_ind (P := fun ws => (grp wide ws).map glue = taken wide ws) rfl (fun ws v ih => by
    rw [grp_snoc, taken_snoc, ← ih]
    rcases nil_or_snoc (grp wide ws) with e | ⟨R, g, e⟩
    · rw [e]
      rfl
    · have gn := (grp_ne wide ws).1 g (by rw [e]; simp)
      rw [e, putG_last, List.map_append]
      unfold put
      rw [show (List.map glue [g]) = [glue g] from rfl, List.getLast?_concat, List.dropLast_concat]
      dsimp only
      split
      · rw [List.map_append]
        show R.map glue ++ [glue (g ++ [v])] = _
        rw [glue_snoc _ _ gn]
      · rw [List.map_append, List.map_append]
        rfl) _ ws rfl
end Lin
set_option Elab.async false
set_option linter.all false
namespace Lin
end Lin
set_option Elab.async false
set_option linter.all false
set_option maxRecDepth 100000
set_option maxHeartbeats 4000000
namespace L2
open PySem PySem.Spec PyProof.Rows
section
variable {κ : Type} [DecidableEq κ]
end
section
variable {P : Program} {w : World} {H : Hp} {h : Heap} {a : Addr}
end
section
variable {X : Cx} {pins : List (Addr × Obj)} {σ : St} {H : Hp} {s : Shared} {a : Addr} {y v : V} {u r : Value} {o : Option V} {A : Around} {E : Value → Shared → Prop}
theorem Inv.big (I : Inv X pins σ H s) : sysModules < s.heap.objs.size := by
  have h : mainGlobals < s.heap.objs.size := (I.mod.glob.keeps I.bk).lt
  exact Nat.lt_trans (by decide) h
end
section
variable {X : Cx} {pins : List (Addr × Obj)} {σ : St} {H : Hp} {s : Shared} {a : Addr} {kvs : List (Key × V)} {k : Key} {u : Value} {A : Around} {E : Value → Shared → Prop}
end
section
variable {X : Cx} {o i e value : Expr} {pos pos' tpos : Pos} {td ty tv : TE}
end
theorem dk_empty {P : Program} {w : World} {H : Hp} (h : Heap) (hb : sysModules < h.objs.size) : ObjOk P w H (h.push { cls := .type "dict", data := .dict #[] }) h.objs.size (.dK []) :=
  ⟨Nat.zero_le _, beq_eq_false_iff_ne.mpr (Ne.symm (Nat.ne_of_lt hb)), [], .nil, Heap.DictOf.new h⟩
def tDNewK : TE := fun _ H Q => ∀ p, H p = none → Q (.ref p) (upd H p (.dK []))
section
variable {X : Cx} {pos : Pos}
theorem pe_dnewK : PE X (.Dict [] [] pos) tDNewK := fun pins s σ H Q I h =>
  wpAny_Dict_empty ⟨.ref s.heap.objs.size, _, I.laid (a := s.heap.objs.size) (o := .dK []) (t' := s.toks) (fun _ _ q => Heap.get?_push_of_some _ q) (Nat.le_refl _) (dk_empty s.heap I.big), rfl, h _ (I.hok.fresh (Nat.le_refl _))⟩
end
section
variable {X : Cx} {pins : List (Addr × Obj)} {σ : St} {H : Hp} {s : Shared} {a : Addr} {y d : V} {u r : Value} {o : Option V} {A : Around} {E : Value → Shared → Prop}
end
section
variable {X : Cx} {o e f : Expr} {apos cpos : Pos} {td ty tx : TE}
end
section
variable {X : Cx} {pins : List (Addr × Obj)} {σ : St} {H : Hp} {s : Shared} {a : Addr} {kvs : List (Key × V)} {A : Around} {E : Value → Shared → Prop}
end
section
variable {X : Cx} {pins : List (Addr × Obj)} {σ : St} {H : Hp} {s : Shared} {a : Addr} {y : V} {u : Value} {A : Around} {E : Value → Shared → Prop}
end
section
variable {X : Cx}
end
section
variable {κ : Type} [DecidableEq κ]
end
end L2
set_option Elab.async false
set_option linter.all false
set_option maxRecDepth 100000
set_option maxHeartbeats 4000000
namespace L2
open PySem
def GI (mg : Str → Option Value) (x : Str) (n : Int) : Prop := ∃ t, mg x = some (.int n t)
theorem pe_gi {X : Cx} {x : Str} {n : Int} {pos : Pos} (hg : Gl X x) (h : GI X.mg x n) (hd : (x == ("__debug__" : Str)) = false := by decide) : PE X (.Name x pos) (tC (.int n)) := by
  obtain ⟨t, h⟩ := h
  exact pe_glob hg h ⟨t, rfl⟩ hd
theorem pe_cls {X : Cx} {x : Str} {C : Addr} {pos : Pos} (hg : Gl X x) (hm : X.mg x = some (.ref C)) (hd : (x == ("__debug__" : Str)) = false := by decide) : PE X (.Name x pos) (tC (.ref C)) := pe_glob hg hm rfl hd
theorem pe_tyn {X : Cx} {x : Str} {T : String} {pos : Pos} (hg : Gl X x) (hm : X.mg x = none) (hv : bootBuiltins x = some (.type T)) (hn : x ≠ "__name__" := by decide) (hd : (x == ("__debug__" : Str)) = false := by decide) : PE X (.Name x pos) (tC (.ty T)) := pe_bltn hg hm hv rfl hn hd
end L2
namespace KS
open PySem L2 Lin
def top (i : Nat) : Stmt := PySem.Challenge.pw_pagepart_k71_poured.main.body.getD i (.Pass ⟨0, 0, 0, 0⟩)
abbrev sSign : Stmt := top 14
abbrev sWord : Stmt := top 15
abbrev sAre : Stmt := top 16
abbrev sRefuse : Stmt := top 17
abbrev sTaken : Stmt := top 18
abbrev sCellAt : Stmt := top 29
abbrev sTake : Stmt := top 30
abbrev sLw : Stmt := top 31
abbrev sDue : Stmt := top 35
abbrev sTold : Stmt := top 36
abbrev sRef : Stmt := top 38
abbrev sBad : Stmt := top 32
abbrev sLaw : Stmt := top 39
abbrev sWhole : Stmt := top 20
abbrev sLength : Stmt := top 21
abbrev sRoom : Stmt := top 23
abbrev sRefR : Stmt := top 24
abbrev sNar : Stmt := top 25
abbrev sOn : Stmt := top 26
abbrev sPour : Stmt := top 27
abbrev sRooms : Stmt := top 33
abbrev sBadR : Stmt := top 34
abbrev sApart : Stmt := top 37
theorem fresh {H : Hp} {p : Addr} {o : HO} {R : Hp → Prop} (hn : H p = none) (k : ∀ H1, Same H H1 → H1 p = some o → R H1) : R (upd H p o) :=
  k _ (fun b u e => by rw [upd_ne (ne_of_none e hn)]; exact e) upd_same
structure Callee (P : Program) (w : World) (K : PySem.W.Frag) (mg : Str → Option Value) (base : Heap) (CX : CXT) (k : Nat) (x : Str) (f : Addr) (fd : FuncData) (ps : List Str) (sp : Sp) : Prop where
  ok : FnOk P w K mg base CX k f fd ps sp
  bound : mg x = some (.ref f)
  kp : PySem.W.keepIn K (.ref f) = true
  bd : Binds K fd ps []
theorem at_map {ns : List Int} {k : Int} (h0 : 0 ≤ k) (h1 : k < ns.length) : atI (ns.map V.int) k = some (.int (ns.getD k.toNat 0)) := by
  obtain ⟨j, rfl⟩ := Int.eq_ofNat_of_zero_le h0
  refine atI_nat ?_
  rw [List.getElem?_map, List.getElem?_eq_getElem (by omega)]
  simp [List.getD, show j < ns.length by omega]
theorem same_upd {H H1 : Hp} {l : Addr} {o : HO} (S : Same H H1) (hn : H l = none) : Same H (upd H1 l o) := fun b u e => by
  rw [upd_ne (ne_of_none e hn)]
  exact S b u e
theorem same_new {H : Hp} {p : Addr} {o : HO} (hn : H p = none) : Same H (upd H p o) := fun b u e => by rw [upd_ne (ne_of_none e hn)]; exact e
theorem evl_neg1 {σ : St} {H : Hp} : Evl (tUn (rU fun i => V.int (-i)) (tC (V.int 1))) σ H (.int (-1)) := fun Q q => ⟨1, rfl, q⟩
def tx (ws : List W) : List V := ws.map fun w => V.str (txt w)
theorem tx_len (ws : List W) : (tx ws).length = ws.length := List.length_map _
theorem tx_get {ws : List W} {i : Nat} {w : W} (h : ws[i]? = some w) : (tx ws)[i]? = some (V.str (txt w)) := by
  unfold tx
  rw [List.getElem?_map, h]
  rfl
theorem tx_get' {ws : List W} {i : Nat} {x : V} (h : (tx ws)[i]? = some x) : ∃ w, ws[i]? = some w ∧ x = V.str (txt w) := by
  unfold tx at h
  rw [List.getElem?_map] at h
  cases e : ws[i]? with
  | none => rw [e] at h; cases h
  | some w => rw [e] at h; cases h; exact ⟨w, rfl, rfl⟩
theorem tx_snoc (ws : List W) (w : W) : tx ws ++ [V.str (txt w)] = tx (ws ++ [w]) := by
  unfold tx
  rw [List.map_append]
  rfl
def good (c : Nat) : Prop := 33 ≤ c ∧ c ≤ 126 ∧ c ≠ 37
def okW (w : W) : Prop := 1 ≤ w.length ∧ w.length ≤ 12 ∧ ∀ c ∈ w, good c
structure Nm (K : PySem.W.Frag) (mg : Str → Option Value) : Prop where
  gOUT : GI mg "LEFT_OUT" 37
  gMOST : GI mg "MOST_SIGNS" 12
  ti : mg "isinstance" = none
  tstr : mg "str" = none
  tlist : mg "list" = none
  tl : mg "len" = none
  tall : mg "all" = none
  tany : mg "any" = none
  tord : mg "ord" = none
  kNs : PySem.W.kitOne K (.type "NoneType") (.type "str") = some false
  kBs : PySem.W.kitOne K (.type "bool") (.type "str") = some false
  kIs : PySem.W.kitOne K (.type "int") (.type "str") = some false
  kLs : PySem.W.kitOne K (.type "list") (.type "str") = some false
  kTs : PySem.W.kitOne K (.type "tuple") (.type "str") = some false
  kDs : PySem.W.kitOne K (.type "dict") (.type "str") = some false
  kNl : PySem.W.kitOne K (.type "NoneType") (.type "list") = some false
  kSl : PySem.W.kitOne K (.type "str") (.type "list") = some false
  kIl : PySem.W.kitOne K (.type "int") (.type "list") = some false
  kTl : PySem.W.kitOne K (.type "tuple") (.type "list") = some false
  kDl : PySem.W.kitOne K (.type "dict") (.type "list") = some false
def isG (c : Nat) : Bool := decide (33 ≤ c) && (decide (c ≤ 126) && decide (c ≠ 37))
def isW (l : W) : Bool := decide (1 ≤ l.length) && (decide (l.length ≤ 12) && l.all isG)
theorem isG_iff {c : Nat} : isG c = true ↔ good c := by
  unfold isG good
  rw [Bool.and_eq_true, Bool.and_eq_true, decide_eq_true_eq, decide_eq_true_eq, decide_eq_true_eq]
theorem isW_iff {l : W} : isW l = true ↔ okW l := by
  unfold isW okW
  rw [Bool.and_eq_true, Bool.and_eq_true, decide_eq_true_eq, decide_eq_true_eq, List.all_eq_true]
  exact and_congr Iff.rfl (and_congr Iff.rfl ⟨fun h c hc => isG_iff.mp (h c hc), fun h c hc => isG_iff.mpr (h c hc)⟩)
inductive NoS (H : Hp) : V → Prop where
  | non : NoS H .non
  | bl (b : Bool) : NoS H (.bl b)
  | int (i : Int) : NoS H (.int i)
  | lst {a : Addr} {xs : List V} (e : H a = some (.lst xs)) : NoS H (.ref a)
  | tup {a : Addr} {xs : List V} (e : H a = some (.tup xs)) : NoS H (.ref a)
  | dK {a : Addr} {kvs : List (Key × V)} (e : H a = some (.dK kvs)) : NoS H (.ref a)
inductive NoL (H : Hp) : V → Prop where
  | non : NoL H .non
  | int (i : Int) : NoL H (.int i)
  | str (x : Str) : NoL H (.str x)
  | tup {a : Addr} {xs : List V} (e : H a = some (.tup xs)) : NoL H (.ref a)
  | dK {a : Addr} {kvs : List (Key × V)} (e : H a = some (.dK kvs)) : NoL H (.ref a)
theorem NoS.same {H H' : Hp} (S : Same H H') {x : V} (h : NoS H x) : NoS H' x := by
  cases h with
  | non => exact .non
  | bl b => exact .bl b
  | int i => exact .int i
  | lst e => exact .lst (S _ _ e)
  | tup e => exact .tup (S _ _ e)
  | dK e => exact .dK (S _ _ e)
theorem NoL.same {H H' : Hp} (S : Same H H') {x : V} (h : NoL H x) : NoL H' x := by
  cases h with
  | non => exact .non
  | int i => exact .int i
  | str x => exact .str x
  | tup e => exact .tup (S _ _ e)
  | dK e => exact .dK (S _ _ e)
theorem NoS.ty {K : PySem.W.Frag} {mg : Str → Option Value} (Z : Nm K mg) {H : Hp} {x : V} (h : NoS H x) : ∃ t, TyX K H x t ∧ PySem.W.kitOne K t (.type "str") = some false := by
  cases h with
  | non => exact ⟨_, .of .non, Z.kNs⟩
  | bl b => exact ⟨_, .of (.bl b), Z.kBs⟩
  | int i => exact ⟨_, .of (.int i), Z.kIs⟩
  | lst e => exact ⟨_, .of (.lst e), Z.kLs⟩
  | tup e => exact ⟨_, .of (.tup e), Z.kTs⟩
  | dK e => exact ⟨_, .of (.dK e), Z.kDs⟩
theorem NoL.ty {K : PySem.W.Frag} {mg : Str → Option Value} (Z : Nm K mg) {H : Hp} {x : V} (h : NoL H x) : ∃ t, TyX K H x t ∧ PySem.W.kitOne K t (.type "list") = some false := by
  cases h with
  | non => exact ⟨_, .of .non, Z.kNl⟩
  | int i => exact ⟨_, .of (.int i), Z.kIl⟩
  | str x => exact ⟨_, .of (.str x), Z.kSl⟩
  | tup e => exact ⟨_, .of (.tup e), Z.kTl⟩
  | dK e => exact ⟨_, .of (.dK e), Z.kDl⟩
def JW (H : Hp) (x : V) (b : Bool) : Prop := (∃ l : W, x = .str (txt l) ∧ (∀ c ∈ l, c < 128) ∧ l.length ≤ 1000 ∧ b = isW l) ∨ (b = false ∧ NoS H x)
theorem JW.same {H H' : Hp} (S : Same H H') {x : V} {b : Bool} (h : JW H x b) : JW H' x b := h.imp id fun h => ⟨h.1, h.2.same S⟩
def JWs (H : Hp) : List V → List Bool → Prop := Paired (JW H)
theorem JWs.same {H H' : Hp} (S : Same H H') : ∀ {vs : List V} {bs : List Bool}, JWs H vs bs → JWs H' vs bs
  | _, _, .nil => .nil
  | _, _, .cons h t => .cons (h.same S) (JWs.same S t)
theorem JWs.len {H : Hp} {vs : List V} {bs : List Bool} (h : JWs H vs bs) : vs.length = bs.length := Paired.length h
theorem JWs.get {H : Hp} : ∀ {vs : List V} {bs : List Bool} {i : Nat} {v : V}, JWs H vs bs → vs[i]? = some v → ∃ b, bs[i]? = some b ∧ JW H v b
  | _, _, _, _, .nil, e => by simp at e
  | _, _, 0, _, .cons r _, e => by simp at e; subst e; exact ⟨_, rfl, r⟩
  | _, _, i + 1, v, .cons _ t, e => by
    obtain ⟨p, h1, h2⟩ := JWs.get (i := i) (v := v) t (by simpa using e)
    exact ⟨p, by simpa using h1, h2⟩
theorem JWs.app {H : Hp} : ∀ {vs us : List V} {bs cs : List Bool}, JWs H vs bs → JWs H us cs → JWs H (vs ++ us) (bs ++ cs)
  | _, _, _, _, .nil, s => s
  | _, _, _, _, .cons r t, s => .cons r (JWs.app t s)
theorem jw_good {H : Hp} {u : W} (h : okW u) : JW H (.str (txt u)) true := .inl ⟨u, rfl, fun c hc => by
  have := h.2.2 c hc
  unfold good at this
  omega, by have := h.2.1; omega, (isW_iff.mpr h).symm⟩
theorem jws_good {H : Hp} : ∀ {ws : List W}, (∀ u ∈ ws, okW u) → JWs H (tx ws) (List.replicate ws.length true)
  | [], _ => .nil
  | u :: r, h => .cons (jw_good (h u List.mem_cons_self)) (jws_good (ws := r) fun v hv => h v (List.mem_cons_of_mem _ hv))
def Bad (H : Hp) (x : V) : Prop := (∃ (a : Addr) (xs : List V) (bs : List Bool), x = .ref a ∧ H a = some (.lst xs) ∧ JWs H xs bs ∧ xs.length ≤ 1000 ∧ bs.all id = false) ∨ NoL H x
theorem Bad.same {H H' : Hp} (S : Same H H') {x : V} (h : Bad H x) : Bad H' x := by
  rcases h with ⟨a, xs, bs, e, h1, h2, h3, h4⟩ | h
  · exact .inl ⟨a, xs, bs, e, S _ _ h1, h2.same S, h3, h4⟩
  · exact .inr (h.same S)
def spSign : Sp := fun vs H Q _ => ∃ c : Nat, vs = [.str (txt [c])] ∧ Q (.bl (isG c)) H
def spWord : Sp := fun vs H Q _ => ∃ (x : V) (b : Bool), vs = [x] ∧ JW H x b ∧ ∀ H', Same H H' → Q (.bl b) H'
def spAre : Sp := fun vs H Q _ => ∃ x : V, vs = [x] ∧ ((∃ (a : Addr) (xs : List V) (bs : List Bool), x = .ref a ∧ H a = some (.lst xs) ∧ JWs H xs bs ∧ xs.length ≤ 1000 ∧ ∀ H', Same H H' → Q (.bl (bs.all id)) H') ∨ (NoL H x ∧ Q (.bl false) H))
def spRefuse (C : Addr) : Sp := fun vs H Q E => ∃ x : V, vs = [x] ∧ ((∃ (a : Addr) (ws : List W), x = .ref a ∧ H a = some (.lst (tx ws)) ∧ (∀ w ∈ ws, okW w) ∧ ws.length ≤ 1000 ∧ ∀ H', Same H H' → Q .non H') ∨ (Bad H x ∧ ∀ H', Same H H' → E (.ref C) none H'))
def spTaken : Sp := fun vs H Q _ => ∃ (a : Addr) (ws : List W) (wide : Int), vs = [.ref a, .int wide] ∧ H a = some (.lst (tx ws)) ∧ (∀ w ∈ ws, okW w) ∧ ws.length ≤ 1000 ∧
  ∀ (l : Addr) (H' : Hp), Same H H' → H l = none → H' l = some (.lst (tx (taken wide ws))) → Q (.ref l) H'
theorem lt_one (c d : Nat) : decide ((txt [c]).cps.toList < (txt [d]).cps.toList) = decide (c < d) := by
  rw [decide_eq_decide]
  show ([c] : List Nat) < [d] ↔ c < d
  rw [List.cons_lt_cons_iff]
  constructor
  · rintro (z | ⟨_, z⟩)
    · exact z
    · exact absurd z (List.not_lt_nil _)
  · exact .inl
section
variable {P : Program} {w : World} {K : PySem.W.Frag} {mg : Str → Option Value} {base : Heap}
theorem scSign : FnScope ["sign"] ["sign"] (defScope sSign) := ⟨rfl, rfl, rfl, by decide +kernel, rfl, by decide +kernel, by decide +kernel⟩
theorem ok_sign {f : Addr} {fd : FuncData} (F : Fun K "is_sign" "is_sign" sSign f fd) (Z : Nm K mg) : FnOk P w K mg base CX0 1 f fd ["sign"] spSign := by
  obtain ⟨gOUT, gMOST, ti, tstr, tlist, tl, tall, tany, tord, _, _, _, _, _, _, _, _, _, _, _⟩ := Z
  refine F.ok scSign (fun vs H Q E h => ?_) (fun cdv A outer s H vs Q E hr h => ?_)
  · obtain ⟨c, rfl, _⟩ := h
    rfl
  · obtain ⟨c, rfl, q⟩ := h
    refine ⟨_, (pss_one (ps_ret (pe_and (pe_chain op_le_str op_le_str pe_str (pv 0) pe_str) (pe_one (pe_cmpR op_ne (pe_callB call_ord (by rfl) tord PyProof.Rows.boot_ord (pa_cons (pv 0) pa_nil)) (pe_gi rfl gOUT) (nomark _)))))), ?_⟩
    have e1 : ("!" : Str) = txt [33] := by decide +kernel
    have e2 : ("~" : Str) = txt [126] := by decide +kernel
    refine ⟨_, rfl, _, _, rfl, rfl, _, rfl, ?_⟩
    have d1 : (!decide ((txt [c]).cps.toList < (("!" : Str)).cps.toList)) = decide (33 ≤ c) := by rw [e1, lt_one, ← decide_not, decide_eq_decide]; omega
    rw [d1]
    unfold isG at q
    by_cases c1 : 33 ≤ c
    · rw [decide_eq_true c1] at q ⊢
      refine iteT ⟨_, _, rfl, rfl, _, rfl, ?_⟩
      have d2 : (!decide ((("~" : Str)).cps.toList < (txt [c]).cps.toList)) = decide (c ≤ 126) := by rw [e2, lt_one, ← decide_not, decide_eq_decide]; omega
      rw [d2]
      by_cases c2 : c ≤ 126
      · rw [decide_eq_true c2] at q ⊢
        refine iteT ⟨_, rfl, _, rfl, rfl, rfl, ?_⟩
        have d3 : (!decide (V.int (((txt [c]).cps.getD 0 0 : Nat)) = V.int 37)) = decide (c ≠ 37) := by
          have : (txt [c]).cps.getD 0 0 = c := rfl
          rw [this, dec_int]
          by_cases h : c = 37
          · subst h; rfl
          · rw [decide_eq_true h]; simp; omega
        rw [d3]
        exact q
      · rw [decide_eq_false c2] at q ⊢
        exact iteF q
    · rw [decide_eq_false c1] at q ⊢
      exact iteF ⟨_, rfl, iteF q⟩
end
end KS
set_option Elab.async false
set_option linter.all false
set_option maxRecDepth 100000
set_option maxHeartbeats 4000000
namespace KS
open PySem L2 Lin
theorem taken_bound (wide : Int) (ws : List W) : (∀ w ∈ ws, w.length ≤ 12) → ∀ r ∈ taken wide ws, r.length ≤ 13 * ws.length :=
  snoc_ind (P := fun ws => (∀ w ∈ ws, w.length ≤ 12) → ∀ r ∈ taken wide ws, r.length ≤ 13 * ws.length) (fun _ r hr => (List.not_mem_nil hr).elim) (fun ws w ih h r hr => by
    have ih := ih fun v hv => h v (List.mem_append_left _ hv)
    have hw := h w (by simp)
    rw [taken_snoc] at hr
    rw [List.length_append, List.length_singleton]
    unfold put at hr
    split at hr
    · rename_i q e
      have hq := ih q (List.mem_of_getLast? e)
      split at hr
      · rcases List.mem_append.mp hr with m | m
        · have := ih r (List.dropLast_subset _ m)
          omega
        · rw [List.mem_singleton.mp m, List.length_append, List.length_cons]
          omega
      · rcases List.mem_append.mp hr with m | m
        · have := ih r m
          omega
        · rw [List.mem_singleton.mp m]
          omega
    · rw [List.mem_singleton.mp hr]
      omega) _ ws rfl
theorem set_last (us : List V) (v u : V) : ixN (us ++ [v]).length (-1) = some us.length ∧ (us ++ [v]).set us.length u = us ++ [u] := by
  refine ⟨?_, ?_⟩
  · unfold ixN
    rw [List.length_append, List.length_singleton, if_neg (by omega), if_pos (by omega)]
    congr 1
    omega
  · rw [List.set_append_right _ _ (Nat.le_refl _), Nat.sub_self]
    rfl
section
variable {P : Program} {w : World} {K : PySem.W.Frag} {mg : Str → Option Value} {base : Heap}
theorem scWord : FnScope ["thing"] ["thing"] (defScope sWord) := ⟨rfl, rfl, rfl, by decide +kernel, rfl, by decide +kernel, by decide +kernel⟩
theorem ok_word {f fS : Addr} {fd fdS : FuncData} (F : Fun K "is_word" "is_word" sWord f fd) (Z : Nm K mg) (Si : Callee P w K mg base CX0 1 "is_sign" fS fdS ["sign"] spSign) : FnOk P w K mg base CX0 2 f fd ["thing"] spWord := by
  have Z' := Z
  obtain ⟨gOUT, gMOST, ti, tstr, tlist, tl, tall, tany, tord, _, _, _, _, _, _, _, _, _, _, _⟩ := Z
  refine F.ok scWord (fun vs H Q E h => ?_) (fun cdv A outer s H vs Q E hr h => ?_)
  · obtain ⟨x, b, rfl, _⟩ := h
    rfl
  · obtain ⟨x, b, rfl, hJ, q⟩ := h
    refine ⟨_, (pss_cons (ps_if (PW.pt (pw_or (pt_not (pt_val (pe_callB call_isi (by rfl) ti PyProof.Rows.boot_isinstance (pa_cons (pv 0) (pa_cons (pe_tyn rfl tstr PyProof.Rows.boot_str) pa_nil))))) (pw_or1 (pt_not (pt_chain op_le op_le pe_int (pe_callB call_len_str (by rfl) tl PySem.boot_len (pa_cons (pv 0) pa_nil)) (pe_gi rfl gMOST))))))
      (pss_one (ps_ret pe_bl))
      pss_nil)
      (pss_one (ps_ret (pe_callB (call_allL rfl) (by rfl) tall PyProof.Rows.boot_all (pa_cons (pe_comp (Nc := ["sign"]) (ix := [none]) rfl rfl (by exact (pi_txt (pv 0))) (fun _ _ _ _ _ => (pg_name (i := 0) (by show (["sign"] : List Str).Nodup; decide +kernel) rfl (Or.inl rfl))) (fun _ _ _ _ _ => pts_nil) (fun _ _ _ _ _ => (pe_call Si.ok hr rfl Si.bound Si.kp Si.bd .nil pass0 (pa_cons (pv 0) pa_nil)))) pa_nil))))), ?_⟩
    rcases hJ with ⟨l, rfl, asc, l1000, rfl⟩ | ⟨rfl, ns⟩
    · refine ⟨_, rfl, _, _, _, _, rfl, rfl, .of (.str _), rfl, _, rfl, iteF ?_⟩
      refine ⟨_, rfl, txt l, rfl, (by rw [txt_len]; exact Nat.le_trans l1000 (by decide)), _, _, rfl, rfl, _, rfl, ?_⟩
      rw [txt_len]
      have q0 := q H (Same.refl _)
      unfold isW at q q0
      by_cases c1 : 1 ≤ l.length
      · rw [decide_eq_true c1] at q q0
        have d1 : decide ((1 : Int) ≤ (l.length : Nat)) = true := decide_eq_true (by omega)
        rw [d1]
        refine iteT ⟨_, _, rfl, rfl, _, rfl, ?_⟩
        by_cases c2 : l.length ≤ 12
        · rw [decide_eq_true c2] at q q0
          have d2 : decide (((l.length : Nat) : Int) ≤ 12) = true := decide_eq_true (by omega)
          rw [d2]
          refine iteF ?_
          refine ⟨_, rfl, l, rfl, asc, cmp_txt (l := l) (fun i ys σ H' => ys = ((l.take i).map isG).map V.bl ∧ H' = H ∧ ∃ o, σ = [o]) ⟨rfl, rfl, none, rfl⟩
            (fun i ys σ H' hi ⟨e, _⟩ => by rw [e, List.length_map, List.length_map, List.length_take]; exact Nat.le_trans (show _ ≤ 1000 by omega) (by decide)) ?_ ?_⟩
          · rintro ys σ H' ⟨e, rfl, _⟩ la nl
            rw [List.take_length] at e
            subst e
            refine ⟨la, l.map isG, rfl, SqL.of upd_same, ?_⟩
            rw [List.all_map]
            exact q _ (same_new nl)
          · rintro i c ys σ H' hx ⟨e, rfl, o, rfl⟩
            subst e
            obtain ⟨hil, ev⟩ := List.getElem?_eq_some_iff.mp hx
            dsimp only [gName, tYes]
            refine iteT ?_
            refine ⟨_, rfl, c, rfl, ?_, rfl, _, rfl⟩
            rw [← List.take_append_getElem hil, ev, List.map_append, List.map_append]
            rfl
        · rw [decide_eq_false c2] at q q0
          have d2 : decide (((l.length : Nat) : Int) ≤ 12) = false := decide_eq_false (by omega)
          rw [d2]
          exact iteT q0
      · rw [decide_eq_false c1] at q q0
        have d1 : decide ((1 : Int) ≤ (l.length : Nat)) = false := decide_eq_false (by omega)
        rw [d1]
        exact iteF ⟨_, rfl, iteT q0⟩
    · obtain ⟨t, ty, k⟩ := ns.ty Z'
      exact ⟨_, rfl, _, _, t, _, rfl, rfl, ty, k, _, rfl, iteT (iteT (q H (Same.refl _)))⟩
theorem scAre : FnScope ["things"] ["things"] (defScope sAre) := ⟨rfl, rfl, rfl, by decide +kernel, rfl, by decide +kernel, by decide +kernel⟩
theorem ok_are {f fS : Addr} {fd fdS : FuncData} (F : Fun K "are_words" "are_words" sAre f fd) (Z : Nm K mg) (Wo : Callee P w K mg base CX0 2 "is_word" fS fdS ["thing"] spWord) : FnOk P w K mg base CX0 3 f fd ["things"] spAre := by
  have Z' := Z
  obtain ⟨gOUT, gMOST, ti, tstr, tlist, tl, tall, tany, tord, _, _, _, _, _, _, _, _, _, _, _⟩ := Z
  refine F.ok scAre (fun vs H Q E h => ?_) (fun cdv A outer s H vs Q E hr h => ?_)
  · obtain ⟨x, rfl, _⟩ := h
    rfl
  · obtain ⟨x, rfl, h⟩ := h
    refine ⟨_, (pss_one (ps_ret (pe_and (pe_callB call_isi (by rfl) ti PyProof.Rows.boot_isinstance (pa_cons (pv 0) (pa_cons (pe_tyn rfl tlist PyProof.Rows.boot_list) pa_nil))) (pe_one (pe_callB (call_allL rfl) (by rfl) tall PyProof.Rows.boot_all (pa_cons (pe_comp (Nc := ["thing"]) (ix := [none]) rfl rfl (by refine' pi_list ?zz; case zz => exact (pv 0)) (fun _ _ _ _ _ => (pg_name (i := 0) (by show (["thing"] : List Str).Nodup; decide +kernel) rfl (Or.inl rfl))) (fun _ _ _ _ _ => pts_nil) (fun _ _ _ _ _ => (pe_call Wo.ok hr rfl Wo.bound Wo.kp Wo.bd .nil pass0 (pa_cons (pv 0) pa_nil)))) pa_nil)))))), ?_⟩
    rcases h with ⟨a, xs, bs, rfl, ha, hJ, hn, q⟩ | ⟨nl, q⟩
    · refine ⟨_, rfl, _, _, _, _, rfl, rfl, .of (.lst ha), rfl, _, rfl, iteT ?_⟩
      have lb := hJ.len
      refine ⟨_, rfl, a, rfl, ⟨_, SqL.of ha⟩, cmp_list (K := K) (a := a) (xs := xs) (fun i ys σ H' => ys = (bs.take i).map V.bl ∧ Same H H' ∧ ∃ o, σ = [o]) ⟨rfl, Same.refl _, none, rfl⟩
        (fun i ys σ H' hi ⟨e, S, _⟩ => ⟨by rw [e, List.length_map, List.length_take]; exact Nat.le_trans (show _ ≤ 1000 by omega) (by decide), SqL.of (S _ _ ha)⟩) ?_ ?_⟩
      · rintro ys σ H' ⟨e, S, _⟩ la nl
        rw [lb, List.take_length] at e
        subst e
        exact ⟨la, bs, rfl, SqL.of upd_same, q _ (S.trans (same_new nl))⟩
      · rintro i x ys σ H' hx ⟨e, S, o, rfl⟩
        subst e
        obtain ⟨b, eb, hj⟩ := hJ.get hx
        obtain ⟨hil, ev⟩ := List.getElem?_eq_some_iff.mp eb
        dsimp only [gName, tYes]
        refine iteT ?_
        refine ⟨_, rfl, x, b, rfl, hj.same S, fun H2 S2 => ⟨?_, S.trans S2, _, rfl⟩⟩
        rw [← List.take_append_getElem hil, ev, List.map_append]
        rfl
    · obtain ⟨t, ty, k⟩ := nl.ty Z'
      exact ⟨_, rfl, _, _, t, _, rfl, rfl, ty, k, _, rfl, iteF q⟩
theorem scRefuse : FnScope ["things"] ["things"] (defScope sRefuse) := ⟨rfl, rfl, rfl, by decide +kernel, rfl, by decide +kernel, by decide +kernel⟩
theorem ok_refuse {f fS C : Addr} {fd fdS : FuncData} (F : Fun K "refuse_no_words" "refuse_no_words" sRefuse f fd) (ex : Exc K mg "NoTexts" C) (Ar : Callee P w K mg base CX0 3 "are_words" fS fdS ["things"] spAre) : FnOk P w K mg base (CXE P w) 4 f fd ["things"] (spRefuse C) := by
  refine F.okE scRefuse (fun vs H Q E h => ?_) (fun cdv A outer s H vs Q E hr hh h => ?_)
  · obtain ⟨x, rfl, _⟩ := h
    rfl
  · obtain ⟨x, rfl, h⟩ := h
    refine ⟨_, (pss_one (ps_if (pt_not (pt_val (pe_call Ar.ok hr rfl Ar.bound Ar.kp Ar.bd .nil pass0 (pa_cons (pv 0) pa_nil))))
      (pss_one (ps_raise ex hh rfl (pa_cons pe_str pa_nil)))
      pss_nil)), ?_⟩
    rcases h with ⟨a, ws, rfl, ha, hw, hn, q⟩ | ⟨bad, qe⟩
    · refine ⟨_, rfl, _, rfl, .inl ⟨a, tx ws, _, rfl, ha, jws_good hw, by rw [tx_len]; exact hn, fun H' S => ⟨_, rfl, ?_⟩⟩⟩
      have e : (List.replicate ws.length true).all id = true := by simp
      rw [e]
      exact iteF (q H' S)
    · rcases bad with ⟨a, xs, bs, rfl, ha, hJ, hn, hb⟩ | nl
      · refine ⟨_, rfl, _, rfl, .inl ⟨a, xs, bs, rfl, ha, hJ, hn, fun H' S => ⟨_, rfl, ?_⟩⟩⟩
        rw [hb]
        exact iteT ⟨by show 1 ≤ sizeLine; decide, qe H' S⟩
      · exact ⟨_, rfl, _, rfl, .inr ⟨nl, _, rfl, iteT ⟨by show 1 ≤ sizeLine; decide, qe H (Same.refl _)⟩⟩⟩
theorem scTaken : FnScope ["words", "wide", "rows", "word"] ["words", "wide"] (defScope sTaken) := ⟨rfl, rfl, rfl, by decide +kernel, rfl, by decide +kernel, by decide +kernel⟩
theorem ok_taken {f : Addr} {fd : FuncData} (F : Fun K "taken" "taken" sTaken f fd) (tl : mg "len" = none) : FnOk P w K mg base CX0 1 f fd ["words", "wide"] spTaken := by
  refine F.ok scTaken (fun vs H Q E h => ?_) (fun cdv A outer s H vs Q E hr h => ?_)
  · obtain ⟨a, ws, wide, rfl, _⟩ := h
    rfl
  · obtain ⟨a, ws, wide, rfl, ha, hw, hn, q⟩ := h
    refine ⟨_, (pss_cons (ps_set (i := 2) scTaken.nd rfl (Or.inl rfl) (pe_lst pa_nil))
      (pss_cons (ps_for PassesOwn.never rfl (pi_list (pv 0)) (pg_name (i := 3) scTaken.nd rfl (Or.inl rfl))
      (pss_one (ps_if (PW.pt (pw_and (pt_truth (pv 2) (fun _ => rfl)) (pw_and1 (pt_cmpR op_le (pe_op op_add (pe_op op_add (pe_callB call_len_str (by rfl) tl PySem.boot_len (pa_cons (pe_ix ix_list (pv 2) (pe_un un_neg pe_int) (fun _ _ => rfl)) pa_nil)) pe_int) (pe_callB call_len_str (by rfl) tl PySem.boot_len (pa_cons (pv 3) pa_nil))) (pv 1) (nomark _)))))
        (pss_one (ps_asg (pe_op op_add_str (pe_op op_add_str (pe_ix ix_list (pv 2) (pe_un un_neg pe_int) (fun _ _ => rfl)) pe_str) (pv 3)) (pg_sub (pv 2) (pe_un un_neg pe_int) set_list)))
        (pss_one (ps_expr (pe_bm PySem.F.plainAttrs_list PySem.F.slot_list_append PySem.F.type_list_append mt_append (pv 2) (pa_cons (pv 3) pa_nil)))))))
      (pss_one (ps_ret (pv 2))))), ?_⟩
    refine ⟨by show 0 ≤ sizeLine; decide, fun l nl => ?_⟩
    refine fresh (R := fun H1 => _) nl fun H1 S1 h1 => ?_
    refine ⟨_, rfl, a, rfl, ⟨_, SqL.of (S1 _ _ ha)⟩, ?_⟩
    refine for_list (K := K) (a := a) (xs := tx ws) (fun i σ H2 => ∃ o : Option V, σ = [some (.ref a), some (.int wide), some (.ref l), o] ∧ Same H H2 ∧ H2 l = some (.lst (tx (taken wide (ws.take i)))))
      ⟨none, rfl, S1, h1⟩ (fun i σ H2 _ ⟨_, _, S, _⟩ => SqL.of (S _ _ ha)) ?_ ?_
    · rintro i x σ H2 hi ⟨o, rfl, S, hl⟩
      obtain ⟨v, hv, rfl⟩ := tx_get' hi
      obtain ⟨hil, ev⟩ := List.getElem?_eq_some_iff.mp hv
      have et : taken wide (ws.take (i + 1)) = put wide (taken wide (ws.take i)) v := by rw [← List.take_append_getElem hil, ev, taken_snoc]
      rw [et]
      have bd := taken_bound wide (ws.take i) fun u hu => (hw u (List.mem_of_mem_take hu)).2.1
      have lb := taken_len_le wide (ws.take i)
      rw [List.length_take] at bd lb
      have vb := (hw v (List.mem_of_getElem? hv)).2.1
      generalize taken wide (ws.take i) = rows at hl bd lb ⊢
      refine run_gname ?_
      unfold put
      cases el : rows.getLast? with
      | none =>
        have e' : rows = [] := List.getLast?_eq_none_iff.mp el
        subst e'
        refine ⟨_, rfl, false, .inl ⟨[], SqL.of hl, rfl⟩, iteF ?_⟩
        exact ⟨_, rfl, .inl ⟨rfl, _, SqL.of hl⟩, _, rfl, l, _, _, rfl, rfl, hl, by show 0 < sizeLine; decide, _, rfl, same_upd S nl, by rw [upd_same]; rfl⟩
      | some r =>
        have sp := last_split el
        have rb := bd r (List.mem_of_getLast? el)
        have ers : tx rows = tx rows.dropLast ++ [V.str (txt r)] := by
          conv => lhs; rw [sp]
          rw [tx_snoc]
        have hl2 : H2 l = some (.lst (tx rows.dropLast ++ [V.str (txt r)])) := by rw [← ers]; exact hl
        have ea : atI (tx rows.dropLast ++ [V.str (txt r)]) (-1) = some (V.str (txt r)) := atI_last _ _
        have rs : r.length ≤ 100000 := by omega
        refine ⟨_, rfl, true, .inl ⟨_, SqL.of hl2, by simp⟩, iteT ?_⟩
        refine tst_of (p := (r.length : Int) + 1 + v.length ≤ wide) (evl_I0 (evl_I0 (evl_I0 (evl_lenS (evl_ixL (evl_var rfl) evl_neg1 (SqL.of hl2) ea) (by omega)) evl_c) (evl_lenS (evl_var rfl) (by omega))) (evl_var rfl)) _ ?_
        dsimp only
        refine ite2 (fun c => ?_) (fun c => ?_)
        · have c := of_decide_eq_true c
          rw [if_pos c]
          have sl := set_last (tx rows.dropLast) (V.str (txt r)) (V.str (txt (r ++ 32 :: v)))
          refine evl_addS (w := v) (evl_addS (w := [32]) (evl_ixL (evl_var rfl) evl_neg1 (SqL.of hl2) ea) evl_c (by simp; omega)) (evl_var rfl) (by simp; omega) _ ?_
          refine ⟨_, rfl, _, rfl, l, _, _, _, rfl, rfl, hl2, sl.1, ?_⟩
          refine ⟨_, rfl, same_upd S nl, ?_⟩
          rw [upd_same]
          have e2 : r ++ [32] ++ v = r ++ 32 :: v := by simp
          rw [e2, sl.2, tx_snoc]
        · have c : ¬ (r.length : Int) + 1 + v.length ≤ wide := fun z => c (decide_eq_true z)
          rw [if_neg c]
          refine ⟨_, rfl, .inl ⟨rfl, _, SqL.of hl⟩, _, rfl, l, _, _, rfl, rfl, hl, ?_, _, rfl, same_upd S nl, by rw [upd_same, tx_snoc]⟩
          rw [tx_len]
          exact Nat.lt_of_le_of_lt (show rows.length ≤ 1000 by omega) (by decide)
    · rintro σ H2 ⟨o, rfl, S, hl⟩
      rw [tx_len, List.take_length] at hl
      exact ⟨_, rfl, q l H2 S nl hl⟩
end
end KS
set_option Elab.async false
set_option linter.all false
set_option maxRecDepth 100000
set_option maxHeartbeats 4000000
namespace KS
open PySem L2 Lin
def spCellAt (K : PySem.W.Frag) : Sp := fun vs H Q _ => ∃ (a : Addr) (ns : List Int) (k : Int), vs = [.ref a, .int k] ∧ SqL K H a (ns.map V.int) ∧ 0 ≤ k ∧ ∀ n : Int, Q (.int n) H
def deck (a b c : Int) : HO := .lst [.int a, .int b, .int c]
def spTake : Sp := fun vs H Q _ => ∃ (p : Addr) (a b c many : Int), vs = [.ref p, .int many] ∧ H p = some (deck a b c) ∧ 0 < many ∧ many < 1073741824 ∧ 0 ≤ c ∧ c ≤ 100000 ∧
  ∀ n a' c' : Int, 0 ≤ n → n < many → 0 ≤ c' → c' ≤ c + 1 → Q (.int n) (upd H p (deck a' b c'))
def spLw : Sp := fun vs H Q _ => ∃ (cell way : Int), vs = [.int cell, .int way] ∧ ∀ (l : W) (H' : Hp), Same H H' → okW l → Q (.str (txt l)) H'
def signs : List Nat := (List.range 94).filterMap fun i => if i + 33 = 37 then none else some (i + 33)
theorem signs_len : signs.length = 93 := by decide +kernel
theorem signs_good : ∀ c ∈ signs, good c := by
  intro c hc
  unfold signs at hc
  obtain ⟨i, hi, e⟩ := List.mem_filterMap.mp hc
  rw [List.mem_range] at hi
  split at e
  · cases e
  · cases e
    exact ⟨by omega, by omega, by assumption⟩
section
variable {P : Program} {w : World} {K : PySem.W.Frag} {mg : Str → Option Value} {base : Heap}
theorem scCellAt : FnScope ["script", "k"] ["script", "k"] (defScope sCellAt) := ⟨rfl, rfl, rfl, by decide +kernel, rfl, by decide +kernel, by decide +kernel⟩
theorem ok_cellAt {f : Addr} {fd : FuncData} (F : Fun K "_law_cell_at" "_law_cell_at" sCellAt f fd) (tl : mg "len" = none) : FnOk P w K mg base CX0 1 f fd ["script", "k"] (spCellAt K) := by
  refine F.ok scCellAt (fun vs H Q E h => ?_) (fun cdv A outer s H vs Q E hr h => ?_)
  · obtain ⟨a, ns, k, rfl, _⟩ := h
    rfl
  · obtain ⟨a, ns, k, rfl, hS, k1, q⟩ := h
    refine ⟨_, (pss_cons (ps_if (pt_cmpR op_lt (pv 1) (pe_callB call_len_seq (by rfl) tl PySem.boot_len (pa_cons (pv 0) pa_nil)) (nomark _))
      (pss_one (ps_ret (pe_ix ix_list (pv 0) (pv 1) (fun _ _ => rfl))))
      pss_nil)
      (pss_one (ps_ret pe_int))), ?_⟩
    refine ⟨_, rfl, _, rfl, _, _, rfl, .inl hS, _, _, rfl, rfl, _, rfl, ?_⟩
    rw [List.length_map]
    refine ite2 (fun c1 => ?_) (fun c1 => ?_)
    · have c1 := of_decide_eq_true c1
      exact ⟨_, rfl, _, rfl, _, _, _, _, rfl, rfl, hS, at_map k1 c1, q _⟩
    · exact q _
theorem scTake : FnScope ["deck", "many", "found", "number"] ["deck", "many"] (defScope sTake) := ⟨rfl, rfl, rfl, by decide +kernel, rfl, by decide +kernel, by decide +kernel⟩
theorem ok_take {f : Addr} {fd : FuncData} (F : Fun K "_law_take" "_law_take" sTake f fd) : FnOk P w K mg base CX0 1 f fd ["deck", "many"] spTake := by
  refine F.ok scTake (fun vs H Q E h => ?_) (fun cdv A outer s H vs Q E hr h => ?_)
  · obtain ⟨p, a, b, c, many, rfl, _⟩ := h
    rfl
  · obtain ⟨p, a, b, c, many, rfl, hp, m1, m2, c1, c2, q⟩ := h
    refine ⟨_, (pss_cons (ps_if (pt_cmpR op_eq (pe_ix ix_list (pv 0) pe_int (fun _ _ => rfl)) pe_int (nomark _))
      (pss_cons (ps_set (i := 2) scTake.nd rfl (Or.inl rfl) (pe_op op_mod (pe_ix ix_list (pv 0) pe_int (fun _ _ => rfl)) (pv 1)))
        (pss_cons (ps_asg (pe_op op_fdiv (pe_ix ix_list (pv 0) pe_int (fun _ _ => rfl)) (pv 1)) (pg_sub (pv 0) pe_int set_list))
        (pss_one (ps_ret (pv 2)))))
      pss_nil)
      (pss_cons (ps_asg (pe_op op_add (pe_ix ix_list (pv 0) pe_int (fun _ _ => rfl)) pe_int) (pg_sub (pv 0) pe_int set_list))
      (pss_cons (ps_set (i := 3) scTake.nd rfl (Or.inl rfl) (pe_op op_mod (pe_op op_add (pe_op op_mul (pe_op op_mod (pe_ix ix_list (pv 0) pe_int (fun _ _ => rfl)) pe_int) (pe_op op_add (pe_op op_mul (pe_ix ix_list (pv 0) pe_int (fun _ _ => rfl)) (pe_ix ix_list (pv 0) pe_int (fun _ _ => rfl))) pe_int)) (pe_ix ix_list (pv 0) pe_int (fun _ _ => rfl))) pe_int))
      (pss_cons (ps_set (i := 3) scTake.nd rfl (Or.inl rfl) (pe_op op_mod (pe_op op_mul (pv 3) (pv 3)) pe_int))
      (pss_one (ps_ret (pe_op op_mod (pe_op op_fdiv (pe_op op_mod (pe_op op_mul (pv 3) pe_int) pe_int) pe_int) (pv 1)))))))), ?_⟩
    have hL : ∀ {H : Hp} {a b c : Int}, H p = some (deck a b c) → SqL K H p [.int a, .int b, .int c] := fun h => SqL.of h
    refine seq_if (p := b = 0) (tst_of (evl_eqI (evl_ixL (evl_var rfl) evl_c (hL hp) rfl) evl_c)) (fun z => ?_) (fun z => ?_)
    · refine seq_asg (evl_I (evl_ixL (evl_var rfl) evl_c (hL hp) rfl) (evl_var rfl) m1) ?_
      refine evl_I (evl_ixL (evl_var rfl) evl_c (hL hp) rfl) (evl_var rfl) ⟨m1, m2⟩ _ ?_
      refine ⟨_, rfl, p, _, _, _, rfl, rfl, hp, rfl, ?_⟩
      exact ⟨_, rfl, q (a % many) (a / many) c (Int.emod_nonneg _ (by omega)) (Int.emod_lt_of_pos _ m1) c1 (by omega)⟩
    · refine run_next ?_
      dsimp only
      refine evl_I0 (evl_ixL (evl_var rfl) evl_c (hL hp) rfl) evl_c _ ?_
      refine ⟨_, rfl, p, _, _, _, rfl, rfl, hp, rfl, ?_⟩
      generalize hH2 : upd H p (HO.lst ([V.int a, V.int b, V.int c].set (Int.toNat 2) (V.int (c + 1)))) = H2
      have hp2 : H2 p = some (deck a b (c + 1)) := by rw [← hH2]; exact upd_same
      have q2 : ∀ n : Int, 0 ≤ n → n < many → Q (.int n) H2 := fun n n1 n2 => by rw [← hH2]; exact q n a (c + 1) n1 n2 (by omega) (by omega)
      have a0 := Int.emod_nonneg a (show (2147483647 : Int) ≠ 0 by decide)
      have a1 := Int.emod_lt_of_pos a (show (0 : Int) < 2147483647 by decide)
      have hL2 := hL hp2
      try dsimp only
      refine' seq_asg (v := .int ((a % 2147483647 * ((c + 1) * (c + 1) + 48271) + (c + 1)) % 2147483629)) ?_ ?_
      · exact evl_I (evl_I0 (evl_I (evl_I (evl_ixL (evl_var rfl) evl_c hL2 rfl) evl_c (by show (0 : Int) < 2147483647; decide)) (evl_I0 (evl_I (evl_ixL (evl_var rfl) evl_c hL2 rfl) (evl_ixL (evl_var rfl) evl_c hL2 rfl) (Or.inl ⟨by omega, by omega⟩)) evl_c) (Or.inl ⟨by omega, by omega⟩)) (evl_ixL (evl_var rfl) evl_c hL2 rfl)) evl_c (by show (0 : Int) < 2147483629; decide)
      generalize (a % 2147483647 * ((c + 1) * (c + 1) + 48271) + (c + 1)) = u
      have u0 := Int.emod_nonneg u (show (2147483629 : Int) ≠ 0 by decide)
      have u1 := Int.emod_lt_of_pos u (show (0 : Int) < 2147483629 by decide)
      refine' seq_asg (v := .int (u % 2147483629 * (u % 2147483629) % 2147483587)) ?_ ?_
      · exact evl_I (evl_I (evl_var rfl) (evl_var rfl) (Or.inl ⟨by omega, by omega⟩)) evl_c (by show (0 : Int) < 2147483587; decide)
      generalize u % 2147483629 * (u % 2147483629) = v
      have v0 := Int.emod_nonneg v (show (2147483587 : Int) ≠ 0 by decide)
      have v1 := Int.emod_lt_of_pos v (show (0 : Int) < 2147483587 by decide)
      refine' run_ret (v := .int (v % 2147483587 * 69621 % 2147483563 / 3 % many)) ?_ ?_
      · exact evl_I (evl_I (evl_I (evl_I (evl_var rfl) evl_c (Or.inl ⟨by omega, by omega⟩)) evl_c (by show (0 : Int) < 2147483563; decide)) evl_c ⟨by decide, by decide⟩) (evl_var rfl) m1
      exact q2 _ (Int.emod_nonneg _ (by omega)) (Int.emod_lt_of_pos _ m1)
theorem scLw : FnScope ["cell", "way", "some", "deck", "most", "word", "j"] ["cell", "way"] (defScope sLw) := ⟨rfl, rfl, rfl, by decide +kernel, rfl, by decide +kernel, by decide +kernel⟩
theorem ok_lw {f fT : Addr} {fd fdT : FuncData} (F : Fun K "_law_word" "_law_word" sLw f fd) (tr : mg "range" = none) (Tk : Callee P w K mg base CX0 1 "_law_take" fT fdT ["deck", "many"] spTake) : FnOk P w K mg base CX0 2 f fd ["cell", "way"] spLw := by
  refine F.ok scLw (fun vs H Q E h => ?_) (fun cdv A outer s H vs Q E hr h => ?_)
  · obtain ⟨cell, way, rfl, _⟩ := h
    rfl
  · obtain ⟨cell, way, rfl, q⟩ := h
    refine ⟨_, (pss_cons (ps_set (i := 2) scLw.nd rfl (Or.inl rfl) pe_str)
      (pss_cons (ps_set (i := 3) scLw.nd rfl (Or.inl rfl) (pe_lst (pa_cons (pv 0) (pa_cons (pv 1) (pa_cons pe_int pa_nil)))))
      (pss_cons (ps_set (i := 4) scLw.nd rfl (Or.inl rfl) (pe_ix ix_list (pe_lst (pa_cons pe_int (pa_cons pe_int (pa_cons pe_int pa_nil)))) (pe_call Tk.ok hr rfl Tk.bound Tk.kp Tk.bd .nil pass0 (pa_cons (pv 3) (pa_cons pe_int pa_nil))) (fun _ _ => rfl)))
      (pss_cons (ps_set (i := 5) scLw.nd rfl (Or.inl rfl) pe_str)
      (pss_cons (ps_for PassesOwn.never rfl (pi_range1 rfl tr (pa_cons (pe_op op_add pe_int (pe_call Tk.ok hr rfl Tk.bound Tk.kp Tk.bd .nil pass0 (pa_cons (pv 3) (pa_cons (pv 4) pa_nil)))) pa_nil)) (pg_name (i := 6) scLw.nd rfl (Or.inl rfl))
      (pss_one (ps_set (i := 5) scLw.nd rfl (Or.inl rfl) (pe_op op_add_str (pv 5) (pe_ix ix_sign (pv 2) (pe_call Tk.ok hr rfl Tk.bound Tk.kp Tk.bd .nil pass0 (pa_cons (pv 3) (pa_cons pe_int pa_nil))) (fun _ _ => rfl))))))
      (pss_one (ps_ret (pv 5)))))))), ?_⟩
    have es : ("!\"#$&'()*+,-./0123456789:;<=>?@ABCDEFGHIJKLMNOPQRSTUVWXYZ[\\]^_`abcdefghijklmnopqrstuvwxyz{|}~" : Str) = txt signs := by decide +kernel
    have e0 : ("" : Str) = txt [] := by decide +kernel
    refine ⟨_, rfl, _, rfl, by show 3 ≤ sizeLine; decide, fun p np => ?_⟩
    have S1 := same_new (o := .lst [.int cell, .int way, .int 0]) np
    have hp1 : (upd H p (.lst [.int cell, .int way, .int 0])) p = some (deck cell way 0) := upd_same
    generalize upd H p (.lst [.int cell, .int way, .int 0]) = H1 at S1 hp1
    refine ⟨by show 3 ≤ sizeLine; decide, fun p2 np2 => ?_⟩
    have S2 := same_new (o := .lst [.int 3, .int 6, .int 12]) np2
    have hp2 : (upd H1 p2 (.lst [.int 3, .int 6, .int 12])) p2 = some (.lst [.int 3, .int 6, .int 12]) := upd_same
    have hp := S2 _ _ hp1
    have n2 : p2 ≠ p := fun z => by rw [z] at np2; rw [np2] at hp1; cases hp1
    generalize upd H1 p2 (.lst [.int 3, .int 6, .int 12]) = H2 at S2 hp2 hp
    refine ⟨_, rfl, p, cell, way, 0, 3, rfl, hp, by decide, by decide, by decide, by decide, fun n a' c' n0 n3 c0 c1 => ?_⟩
    obtain ⟨m, em, m0, m1⟩ : ∃ m : Int, atI [V.int 3, .int 6, .int 12] n = some (.int m) ∧ 3 ≤ m ∧ m ≤ 12 := by
      rcases (show n = 0 ∨ n = 1 ∨ n = 2 by omega) with e | e | e <;> subst e
      · exact ⟨3, rfl, by decide, by decide⟩
      · exact ⟨6, rfl, by decide, by decide⟩
      · exact ⟨12, rfl, by decide, by decide⟩
    refine ⟨p2, _, _, _, rfl, rfl, SqL.of (by rw [upd_ne n2]; exact hp2), em, ?_⟩
    have S12 := S1.trans S2
    have np' : H p = none := np
    have S3 : Same H (upd H2 p (deck a' way c')) := same_upd S12 np'
    have hp3 : (upd H2 p (deck a' way c')) p = some (deck a' way c') := upd_same
    generalize upd H2 p (deck a' way c') = H3 at S3 hp3
    refine ⟨_, rfl, _, rfl, p, a', way, c', m, rfl, hp3, by omega, by omega, by omega, by omega, fun k a2 c2 k0 k1 d0 d1 => ?_⟩
    obtain ⟨N, hN⟩ : ∃ N : Nat, (1 : Int) + k = N := ⟨(1 + k).toNat, by omega⟩
    have S4 : Same H (upd H3 p (deck a2 way c2)) := same_upd S3 np'
    have hp4 : (upd H3 p (deck a2 way c2)) p = some (deck a2 way c2) := upd_same
    generalize upd H3 p (deck a2 way c2) = H4 at S4 hp4
    refine ⟨_, _, rfl, rfl, _, rfl, by omega, by omega, ?_⟩
    rw [hN]
    refine for_range (lo := 0) (n := N) (fun i σ H5 => ∃ (l : W) (o : Option V) (a c : Int), σ = [some (.int cell), some (.int way), some (.str (txt signs)), some (.ref p), some (.int m), some (.str (txt l)), o] ∧ Same H H5 ∧ H5 p = some (deck a way c) ∧ 0 ≤ c ∧ c ≤ 2 + i ∧ l.length = i ∧ ∀ x ∈ l, good x)
      ⟨[], none, a2, c2, by rw [← es, ← e0]; rfl, S4, hp4, d0, by omega, rfl, fun x hx => (List.not_mem_nil hx).elim⟩ ?_ ?_
    · rintro i σ H5 hi ⟨l, o, a, c, rfl, S5, hp5, c0, c1, ll, lg⟩
      refine run_gname ?_
      refine ⟨_, rfl, _, rfl, _, rfl, p, a, way, c, 93, rfl, hp5, by decide, by decide, by omega, by omega, fun n a3 c3 n0 n1 z0 z1 => ?_⟩
      have hn : n.toNat < signs.length := by rw [signs_len]; omega
      have en : atI signs n = some signs[n.toNat] := by
        have z : atI signs ((n.toNat : Nat) : Int) = some signs[n.toNat] := atI_nat (List.getElem?_eq_getElem hn)
        rwa [show ((n.toNat : Nat) : Int) = n by omega] at z
      refine ⟨signs, n, signs[n.toNat], rfl, rfl, by rw [signs_len]; decide, en, ?_⟩
      refine ⟨_, _, rfl, rfl, ?_, ?_⟩
      · rw [txt_len, txt_len]
        exact Nat.le_trans (show l.length + 1 ≤ 100 by omega) (by decide)
      · rw [txt_app]
        refine ⟨l ++ [signs[n.toNat]], _, a3, c3, rfl, same_upd S5 np', upd_same, z0, by omega, by rw [List.length_append, ll]; rfl, fun x hx => ?_⟩
        rcases List.mem_append.mp hx with z | z
        · exact lg x z
        · rw [List.mem_singleton.mp z]
          exact signs_good _ (List.getElem_mem hn)
    · rintro σ H5 ⟨l, o, a, c, rfl, S5, hp5, c0, c1, ll, lg⟩
      exact ⟨_, rfl, q l H5 S5 ⟨by omega, by omega, lg⟩⟩
end
end KS
set_option Elab.async false
set_option linter.all false
namespace Lin
def nar (wide : Int) : List W → List W
  | [] => []
  | w :: r => if (w.length : Int) ≤ wide then w :: nar wide r else []
def fit (wide : Int) : Int → List W → Nat
  | _, [] => 0
  | u, w :: r => if u + 1 + w.length ≤ wide then fit wide (u + 1 + w.length) r + 1 else 0
def lns (wide : Int) : Nat → List W → List (List W)
  | 0, _ => []
  | h + 1, ws => if fit wide (-1) ws = 0 then [] else ws.take (fit wide (-1) ws) :: lns wide h (ws.drop (fit wide (-1) ws))
def used (wide : Int) (h : Nat) (ws : List W) : Nat := (lns wide h ws).flatten.length
theorem fit_le {wide : Int} : ∀ {u : Int} {ws : List W}, fit wide u ws ≤ ws.length
  | _, [] => Nat.le_refl _
  | u, w :: r => by
    unfold fit
    split
    · exact Nat.succ_le_succ fit_le
    · exact Nat.zero_le _
theorem nar_all {wide : Int} : ∀ {ws : List W}, (∀ w ∈ ws, (w.length : Int) ≤ wide) → nar wide ws = ws
  | [], _ => rfl
  | w :: r, h => by
    unfold nar
    rw [if_pos (h w List.mem_cons_self), nar_all fun v hv => h v (List.mem_cons_of_mem _ hv)]
theorem nar_take {wide : Int} : ∀ {ws : List W} {k : Nat}, (∀ w ∈ ws.take k, (w.length : Int) ≤ wide) → (∀ w, ws[k]? = some w → wide < (w.length : Int)) → nar wide ws = ws.take k
  | [], k, _, _ => by rw [List.take_nil]; rfl
  | w :: r, 0, _, h => by
    unfold nar
    rw [if_neg (by have := h w rfl; omega)]
    rfl
  | w :: r, k + 1, h1, h2 => by
    unfold nar
    rw [if_pos (h1 w (by rw [List.take_succ_cons]; exact List.mem_cons_self)), List.take_succ_cons, nar_take (k := k) (fun v hv => h1 v (by rw [List.take_succ_cons]; exact List.mem_cons_of_mem _ hv)) (fun v hv => h2 v hv)]
theorem fold_pre (wide : Int) : ∀ (ws : List W) (R : List (List W)) (g : List W), ws.foldl (putG wide) (R ++ [g]) = R ++ ws.foldl (putG wide) [g]
  | [], R, g => rfl
  | w :: r, R, g => by
    show r.foldl (putG wide) (putG wide (R ++ [g]) w) = R ++ r.foldl (putG wide) (putG wide [g] w)
    have e := putG_last wide [] g w
    rw [List.nil_append, List.nil_append] at e
    rw [putG_last, e]
    split
    · exact fold_pre wide r R (g ++ [w])
    · rw [fold_pre wide r (R ++ [g]) [w], fold_pre wide r [g] [w], List.append_assoc]
theorem fold_line (wide : Int) : ∀ (ws : List W) (g : List W), g ≠ [] →
    (nar wide ws).foldl (putG wide) [g] = (g ++ ws.take (fit wide ((glue g).length : Int) ws)) :: grp wide (nar wide (ws.drop (fit wide ((glue g).length : Int) ws)))
  | [], g, _ => by
    show [g] = [g ++ []]
    rw [List.append_nil]
  | w :: r, g, hg => by
    by_cases c : ((glue g).length : Int) + 1 + w.length ≤ wide
    · have ef : fit wide ((glue g).length : Int) (w :: r) = fit wide ((glue (g ++ [w])).length : Int) r + 1 := by
        conv => lhs; unfold fit
        rw [if_pos c, glue_snoc _ _ hg, List.length_append, List.length_cons]
        congr 2
        omega
      have en : nar wide (w :: r) = w :: nar wide r := by
        conv => lhs; unfold nar
        rw [if_pos (by omega)]
      have e := putG_last wide [] g w
      rw [List.nil_append, List.nil_append, if_pos c] at e
      rw [en, ef, List.take_succ_cons, List.drop_succ_cons]
      show (nar wide r).foldl (putG wide) (putG wide [g] w) = _
      rw [e, fold_line wide r (g ++ [w]) (by simp), List.append_assoc]
      rfl
    · have ef : fit wide ((glue g).length : Int) (w :: r) = 0 := by
        conv => lhs; unfold fit
        rw [if_neg c]
      rw [ef, List.take_zero, List.drop_zero, List.append_nil]
      by_cases d : (w.length : Int) ≤ wide
      · have en : nar wide (w :: r) = w :: nar wide r := by
          conv => lhs; unfold nar
          rw [if_pos d]
        have e := putG_last wide [] g w
        rw [List.nil_append, List.nil_append, if_neg c] at e
        rw [en]
        show (nar wide r).foldl (putG wide) (putG wide [g] w) = g :: (nar wide r).foldl (putG wide) [[w]]
        rw [e, fold_pre]
        rfl
      · have en : nar wide (w :: r) = [] := by
          conv => lhs; unfold nar
          rw [if_neg d]
        rw [en]
        rfl
theorem grp_line {wide : Int} : ∀ {ws : List W}, fit wide (-1) ws ≠ 0 → grp wide (nar wide ws) = ws.take (fit wide (-1) ws) :: grp wide (nar wide (ws.drop (fit wide (-1) ws)))
  | [], h => absurd rfl h
  | w :: r, h => by
    have c : (w.length : Int) ≤ wide := by
      apply Classical.byContradiction
      intro z
      apply h
      unfold fit
      rw [if_neg (by omega)]
    have ef : fit wide (-1) (w :: r) = fit wide ((glue [w]).length : Int) r + 1 := by
      conv => lhs; unfold fit
      rw [if_pos (by omega)]
      congr 2
      show (-1 : Int) + 1 + (w.length : Int) = (w.length : Int)
      omega
    have en : nar wide (w :: r) = w :: nar wide r := by
      conv => lhs; unfold nar
      rw [if_pos c]
    rw [en, ef, List.take_succ_cons, List.drop_succ_cons]
    show (nar wide r).foldl (putG wide) [[w]] = _
    rw [fold_line wide r [w] (by simp)]
    rfl
theorem nar_nil {wide : Int} : ∀ {ws : List W}, fit wide (-1) ws = 0 → nar wide ws = []
  | [], _ => rfl
  | w :: r, h => by
    unfold nar
    rw [if_neg]
    intro z
    unfold fit at h
    rw [if_pos (by omega)] at h
    exact absurd h (Nat.succ_ne_zero _)
theorem lns_eq {wide : Int} : ∀ (h : Nat) (ws : List W), (grp wide (nar wide ws)).take h = lns wide h ws
  | 0, ws => rfl
  | h + 1, ws => by
    unfold lns
    split
    · rename_i z
      rw [nar_nil z]
      rfl
    · rename_i z
      rw [grp_line z, List.take_succ_cons, lns_eq h]
theorem lns_taken (wide : Int) (h : Nat) (ws : List W) : (taken wide (nar wide ws)).take h = (lns wide h ws).map glue := by
  rw [← lns_eq, List.map_take, grp_glue]
theorem lns_ne {wide : Int} : ∀ {h : Nat} {ws : List W}, ∀ g ∈ lns wide h ws, g ≠ []
  | 0, _, g, hg => (List.not_mem_nil hg).elim
  | h + 1, ws, g, hg => by
    unfold lns at hg
    split at hg
    · exact (List.not_mem_nil hg).elim
    · rename_i z
      rcases List.mem_cons.mp hg with e | e
      · rw [e]
        intro y
        have := congrArg List.length y
        rw [List.length_take, List.length_nil] at this
        have := fit_le (wide := wide) (u := -1) (ws := ws)
        omega
      · exact lns_ne g e
theorem used_zero (wide : Int) (ws : List W) : used wide 0 ws = 0 := rfl
theorem used_succ (wide : Int) (h : Nat) (ws : List W) : used wide (h + 1) ws = fit wide (-1) ws + used wide h (ws.drop (fit wide (-1) ws)) := by
  conv => lhs; unfold used lns
  split
  · rename_i z
    rw [z, List.drop_zero]
    have : lns wide h ws = [] := by
      cases h with
      | zero => rfl
      | succ h => unfold lns; rw [if_pos z]
    unfold used
    rw [this]
    rfl
  · rw [List.flatten_cons, List.length_append, List.length_take, Nat.min_eq_left fit_le]
    rfl
theorem used_le {wide : Int} : ∀ {h : Nat} {ws : List W}, used wide h ws ≤ ws.length
  | 0, _ => Nat.zero_le _
  | h + 1, ws => by
    rw [used_succ]
    have := used_le (wide := wide) (h := h) (ws := ws.drop (fit wide (-1) ws))
    have := fit_le (wide := wide) (u := -1) (ws := ws)
    rw [List.length_drop] at *
    omega
theorem used_fit0 {wide : Int} {h : Nat} {ws : List W} (z : fit wide (-1) ws = 0) : used wide h ws = 0 := by
  cases h with
  | zero => rfl
  | succ h => unfold used lns; rw [if_pos z]; rfl
theorem lns_flat {wide : Int} : ∀ {h : Nat} {ws : List W}, (lns wide h ws).flatten = ws.take (used wide h ws)
  | 0, ws => rfl
  | h + 1, ws => by
    rw [used_succ]
    conv => lhs; unfold lns
    split
    · rename_i z
      rw [z, List.drop_zero, used_fit0 z]
      rfl
    · rw [List.flatten_cons, lns_flat, List.take_add]
theorem lns_add {wide : Int} : ∀ (a b : Nat) (ws : List W), lns wide (a + b) ws = lns wide a ws ++ lns wide b (ws.drop (used wide a ws))
  | 0, b, ws => by
    rw [Nat.zero_add, used_zero, List.drop_zero]
    rfl
  | a + 1, b, ws => by
    rw [Nat.succ_add, used_succ]
    by_cases z : fit wide (-1) ws = 0
    · have e0 : ∀ n, lns wide n ws = [] := fun n => by
        cases n with
        | zero => rfl
        | succ n => unfold lns; rw [if_pos z]
      rw [z, List.drop_zero, used_fit0 z, List.drop_zero, e0, e0, e0]
      rfl
    · have e1 : ∀ n, lns wide (n + 1) ws = ws.take (fit wide (-1) ws) :: lns wide n (ws.drop (fit wide (-1) ws)) := fun n => by
        conv => lhs; unfold lns
        rw [if_neg z]
      rw [show (a + b).succ = (a + b) + 1 from rfl, e1, e1, lns_add a b, List.drop_drop, List.cons_append]
theorem used_add (wide : Int) (a b : Nat) (ws : List W) : used wide (a + b) ws = used wide a ws + used wide b (ws.drop (used wide a ws)) := by
  conv => lhs; unfold used
  rw [lns_add, List.flatten_append, List.length_append]
  rfl
end Lin
set_option Elab.async false
set_option linter.all false
set_option maxRecDepth 100000
namespace Tre
open PySem L2
inductive T where
  | non | bl (b : Bool) | int (i : Int) | str (x : Str) | tup (ts : List T) | lst | dic
mutual
def sz : T → Nat
  | .tup ts => 1 + szL ts
  | .non => 1
  | .bl _ => 1
  | .int _ => 1
  | .str _ => 1
  | .lst => 1
  | .dic => 1
def szL : List T → Nat
  | [] => 0
  | t :: r => sz t + szL r
end
end Tre
set_option Elab.async false
set_option linter.all false
set_option maxRecDepth 100000
namespace L2
open PySem PySem.Spec PyProof.Rows PySem.W
section
variable {X : Cx}
theorem call_intB : CallR X (.type "int") (fun xs H Q => ∃ b : Bool, xs = [.bl b] ∧ Q (.int (if b then 1 else 0)) H) := by
  intro pins s σ H xs us Q I r h
  obtain ⟨b, rfl, q⟩ := h
  obtain ⟨u, rfl, rfl⟩ := vals1 r
  exact call_int_bool ⟨.int (if b then 1 else 0), H, I.tok _, ⟨_, rfl⟩, q⟩
theorem pe_bmK {K : PySem.W.Frag} {o e : Expr} {es : List Expr} {to : TE} {t : TA} {name : Str} {apos cpos : Pos} {T id : String} {r : V → List V → Hp → VK → Prop} (hK : X.K = K) (pa : PlainAttrs T) (slot : Slot T name id) (hty : typeOf (.builtin id) = pure (.type "method_descriptor")) (hm : MtR X id r) (ho : PE X o to) (ha : PA X (e :: es) t)
    (hbase : attributeBase o name X.env (eval o X.env) = eval o X.env := by rfl)
    (hfew : ((backTo cpos (starEach (e :: es) X.env)).all (fun x => !x.1) && (backToKw cpos (keywordEach [] X.env)).all (fun x => x.1.isSome)
      && decide ((e :: es).length + ([] : List Keyword).length + (if ([] : List Keyword).isEmpty then 0 else 1) < 30)) = true := by rfl)
    (hline : (apos.endLine == cpos.line) = true := by rfl) (hs : starEach (e :: es) X.env = (false, eval e X.env) :: starEach es X.env := by rfl) (hplain : (backTo cpos (starEach es X.env)).any (·.1) = false := by rfl) :
    PE X (.Call (.Attribute o name apos) (e :: es) [] cpos) (tBM K T r to t) := by
  subst hK
  exact pe_bm pa slot hty hm ho ha hbase hfew hline hs hplain
end
section
variable {X : Cx} {es : List Expr} {te : TE} {t : TA}
theorem pa_cT {a : List Expr} {b : Nat} {c : Pos} (ha : PE X (.Tuple a b c) te) (hr : PA X es t) : PA X (.Tuple a b c :: es) (tCons te t) := pa_cons ha hr rfl
theorem pa_cC {a : Const} {b : Nat} {c : Pos} (ha : PE X (.Constant a b c) te) (hr : PA X es t) : PA X (.Constant a b c :: es) (tCons te t) := pa_cons ha hr rfl
theorem pa_cN {a : Str} {c : Pos} (ha : PE X (.Name a c) te) (hr : PA X es t) : PA X (.Name a c :: es) (tCons te t) := pa_cons ha hr rfl
theorem pa_cB {a b : Expr} {o : Operator} {c : Pos} (ha : PE X (.BinOp a o b c) te) (hr : PA X es t) : PA X (.BinOp a o b c :: es) (tCons te t) := pa_cons ha hr rfl
theorem ps_setL {i : Nat} {x : Str} {es : List Expr} {te : TE} {p pos pos' : Pos} (hN : X.N.Nodup) (hi : X.N[i]? = some x) (hx : Loc X.env.scope x) (he : PE X (.List es p) te) (hf : X.fn x = true ∨ X.env.scope.names.lookup x = some .local) :
    PS X (.Assign [.Name x pos'] (.List es p) pos) (tAsg te (gName i)) := ps_set hN hi hx he rfl hf
theorem pa_cL {a : List Expr} {c : Pos} (ha : PE X (.List a c) te) (hr : PA X es t) : PA X (.List a c :: es) (tCons te t) := pa_cons ha hr rfl
end
structure Bx (p : Prop) : Prop where
  get : p
section
variable {X : Cx} {es : List Expr} {te : TE} {t : TA}
theorem b_nil : Bx (PA X [] tNil) := ⟨pa_nil⟩
theorem b_cT {a : List Expr} {b : Nat} {c : Pos} (ha : Bx (PE X (.Tuple a b c) te)) (hr : Bx (PA X es t)) : Bx (PA X (.Tuple a b c :: es) (tCons te t)) := ⟨pa_cT ha.get hr.get⟩
theorem b_cC {a : Const} {b : Nat} {c : Pos} (ha : Bx (PE X (.Constant a b c) te)) (hr : Bx (PA X es t)) : Bx (PA X (.Constant a b c :: es) (tCons te t)) := ⟨pa_cC ha.get hr.get⟩
theorem b_cB {a b : Expr} {o : Operator} {c : Pos} (ha : Bx (PE X (.BinOp a o b c) te)) (hr : Bx (PA X es t)) : Bx (PA X (.BinOp a o b c :: es) (tCons te t)) := ⟨pa_cB ha.get hr.get⟩
theorem b_tup {x1 : Nat} {pos : Pos} (h : Bx (PA X es t)) : Bx (PE X (.Tuple es x1 pos) (tTup t)) := ⟨pe_tup h.get⟩
theorem b_setL {i : Nat} {x : Str} {p pos pos' : Pos} (hN : X.N.Nodup) (hi : X.N[i]? = some x) (hx : Loc X.env.scope x) (he : Bx (PA X es t)) (hf : X.fn x = true ∨ X.env.scope.names.lookup x = some .local) :
    Bx (PS X (.Assign [.Name x pos'] (.List es p) pos) (tAsg (tLst t) (gName i))) := ⟨ps_setL hN hi hx (pe_lst he.get) hf⟩
theorem b_cons {st : Stmt} {rest : List Stmt} {t u : TS} (h1 : Bx (PS X st t)) (h2 : Bx (PSs X rest u)) : Bx (PSs X (st :: rest) (tSeq t u)) := ⟨pss_cons h1.get h2.get⟩
end
theorem cutV_drop (xs : List V) (k : Nat) (h : k ≤ xs.length) : cutV xs (some (k : Int)) none = xs.drop k := by
  unfold cutV
  rw [HT.sIx_none, HT.sIx_nat, Nat.min_eq_left h]
  exact List.take_of_length_le (by rw [List.length_drop]; exact Nat.le_refl _)
end L2
set_option Elab.async false
set_option linter.all false
set_option maxRecDepth 100000
set_option maxHeartbeats 1000000
namespace KS
open PySem L2 Lin PySem.W
open Tre (T)
mutual
inductive At (H : Hp) : V → T → Prop where
  | non : At H .non .non
  | bl (b : Bool) : At H (.bl b) (.bl b)
  | int (i : Int) : At H (.int i) (.int i)
  | str (x : Str) : At H (.str x) (.str x)
  | tup {a : Addr} {vs : List V} {ts : List T} (e : H a = some (.tup vs)) (h : AtL H vs ts) : At H (.ref a) (.tup ts)
  | lst {a : Addr} {vs : List V} (e : H a = some (.lst vs)) : At H (.ref a) .lst
  | dic {a : Addr} {kvs : List (Key × V)} (e : H a = some (.dK kvs)) : At H (.ref a) .dic
inductive AtL (H : Hp) : List V → List T → Prop where
  | nil : AtL H [] []
  | cons {v : V} {t : T} {vs : List V} {ts : List T} (h : At H v t) (r : AtL H vs ts) : AtL H (v :: vs) (t :: ts)
end
mutual
theorem At.same {H H' : Hp} (S : Same H H') : ∀ {v : V} {t : T}, At H v t → At H' v t
  | _, _, .non => .non
  | _, _, .bl b => .bl b
  | _, _, .int i => .int i
  | _, _, .str x => .str x
  | _, _, .tup e h => .tup (S _ _ e) (AtL.same S h)
  | _, _, .lst e => .lst (S _ _ e)
  | _, _, .dic e => .dic (S _ _ e)
theorem AtL.same {H H' : Hp} (S : Same H H') : ∀ {vs : List V} {ts : List T}, AtL H vs ts → AtL H' vs ts
  | _, _, .nil => .nil
  | _, _, .cons h r => .cons (At.same S h) (AtL.same S r)
end
theorem AtL.len {H : Hp} : ∀ {vs : List V} {ts : List T}, AtL H vs ts → vs.length = ts.length
  | _, _, .nil => rfl
  | _, _, .cons _ r => by rw [List.length_cons, List.length_cons, r.len]
theorem AtL.get {H : Hp} : ∀ {vs : List V} {ts : List T} {i : Nat} {v : V}, AtL H vs ts → vs[i]? = some v → ∃ t, ts[i]? = some t ∧ At H v t
  | _, _, _, _, .nil, e => by simp at e
  | _, _, 0, _, .cons h _, e => by simp at e; subst e; exact ⟨_, rfl, h⟩
  | _, _, i + 1, v, .cons _ r, e => by
    obtain ⟨t, h1, h2⟩ := AtL.get (i := i) (v := v) r (by simpa using e)
    exact ⟨t, by simpa using h1, h2⟩
theorem AtL.app {H : Hp} : ∀ {vs us : List V} {ts ss : List T}, AtL H vs ts → AtL H us ss → AtL H (vs ++ us) (ts ++ ss)
  | _, _, _, _, .nil, s => s
  | _, _, _, _, .cons h r, s => .cons h (AtL.app r s)
def tyT : T → Value
  | .non => .type "NoneType"
  | .bl _ => .type "bool"
  | .int _ => .type "int"
  | .str _ => .type "str"
  | .tup _ => .type "tuple"
  | .lst => .type "list"
  | .dic => .type "dict"
theorem At.ty {K : PySem.W.Frag} {H : Hp} {v : V} {t : T} (h : At H v t) : TyX K H v (tyT t) := by
  cases h with
  | non => exact .of .non
  | bl b => exact .of (.bl b)
  | int i => exact .of (.int i)
  | str x => exact .of (.str x)
  | tup e _ => exact .of (.tup e)
  | lst e => exact .of (.lst e)
  | dic e => exact .of (.dK e)
def isI : T → Bool
  | .int _ => true
  | _ => false
def isIB : T → Bool
  | .int _ => true
  | .bl _ => true
  | _ => false
def isBl : T → Bool
  | .bl _ => true
  | _ => false
def isTp : T → Bool
  | .tup _ => true
  | _ => false
def isLs : T → Bool
  | .lst => true
  | _ => false
structure Nr (K : PySem.W.Frag) (mg : Str → Option Value) : Prop where
  ti : mg "isinstance" = none
  tint : mg "int" = none
  tbool : mg "bool" = none
  ttup : mg "tuple" = none
  tlist : mg "list" = none
  tl : mg "len" = none
  tall : mg "all" = none
  tany : mg "any" = none
  tsum : mg "sum" = none
  te : mg "enumerate" = none
  kI : ∀ t, kitOne K (tyT t) (.type "int") = some (isIB t)
  kB : ∀ t, kitOne K (tyT t) (.type "bool") = some (isBl t)
  kT : ∀ t, kitOne K (tyT t) (.type "tuple") = some (isTp t)
  kL : ∀ t, kitOne K (tyT t) (.type "list") = some (isLs t)
def lenB : T → Bool
  | .int i => decide (1 ≤ i)
  | _ => false
def roomB : T → Bool
  | .tup ts => decide (ts.length = 2) && ts.all lenB
  | _ => false
def small : T → Prop
  | .tup ts => ts.length ≤ 1000
  | _ => True
abbrev Rm := Int × Int
def rT (r : Rm) : T := .tup [.int r.1, .int r.2]
def okR (r : Rm) : Prop := 1 ≤ r.1 ∧ 1 ≤ r.2
theorem rT_small (r : Rm) : small (rT r) := by show 2 ≤ 1000; decide
theorem room_rT {r : Rm} (h : okR r) : roomB (rT r) = true := by
  show (true && (decide (1 ≤ r.1) && (decide (1 ≤ r.2) && true))) = true
  rw [decide_eq_true h.1, decide_eq_true h.2]
  rfl
def GoodR (H : Hp) (x : V) (rs : List Rm) : Prop := ∃ (a : Addr) (xs : List V), x = .ref a ∧ H a = some (.lst xs) ∧ AtL H xs (rs.map rT) ∧ (∀ r ∈ rs, okR r) ∧ rs.length ≤ 1000
theorem GoodR.same {H H' : Hp} {x : V} {rs : List Rm} (S : Same H H') : GoodR H x rs → GoodR H' x rs
  | ⟨a, xs, e, h1, h2, h3, h4⟩ => ⟨a, xs, e, S _ _ h1, h2.same S, h3, h4⟩
def BadR (H : Hp) (x : V) : Prop := (∃ (a : Addr) (xs : List V) (ts : List T), x = .ref a ∧ H a = some (.lst xs) ∧ AtL H xs ts ∧ (∀ t ∈ ts, small t) ∧ xs.length ≤ 1000 ∧ ts.all roomB = false) ∨ ∃ t, At H x t ∧ isLs t = false
theorem BadR.same {H H' : Hp} {x : V} (S : Same H H') : BadR H x → BadR H' x
  | .inl ⟨a, xs, ts, e, h1, h2, h3⟩ => .inl ⟨a, xs, ts, e, S _ _ h1, h2.same S, h3⟩
  | .inr ⟨t, h1, h2⟩ => .inr ⟨t, h1.same S, h2⟩
def step (ws : List W) (p : List (List (List W)) × Nat) (r : Rm) : List (List (List W)) × Nat := (p.1 ++ [lns r.1 r.2.toNat (ws.drop p.2)], p.2 + used r.1 r.2.toNat (ws.drop p.2))
def pour (ws : List W) (rs : List Rm) : List (List (List W)) × Nat := rs.foldl (step ws) ([], 0)
theorem pour_snoc (ws : List W) (rs : List Rm) (r : Rm) : pour ws (rs ++ [r]) = step ws (pour ws rs) r := by
  unfold pour
  rw [List.foldl_append]
  rfl
theorem fold_le (ws : List W) : ∀ (rs : List Rm) (p : List (List (List W)) × Nat), p.2 ≤ ws.length → (rs.foldl (step ws) p).2 ≤ ws.length
  | [], p, h => h
  | r :: rs, p, h => fold_le ws rs _ (by
    show p.2 + used r.1 r.2.toNat (ws.drop p.2) ≤ ws.length
    have := used_le (wide := r.1) (h := r.2.toNat) (ws := ws.drop p.2)
    rw [List.length_drop] at this
    omega)
theorem pour_le (ws : List W) (rs : List Rm) : (pour ws rs).2 ≤ ws.length := fold_le ws rs _ (Nat.zero_le _)
def Rs (H : Hp) : List Addr → List (List (List W)) → Prop := Paired fun p gs => H p = some (.lst (tx (gs.map glue)))
theorem Rs.same {H H' : Hp} (S : Same H H') : ∀ {ps : List Addr} {gs : List (List (List W))}, Rs H ps gs → Rs H' ps gs
  | _, _, .nil => .nil
  | _, _, .cons h t => .cons (S _ _ h) (Rs.same S t)
theorem Rs.but {H : Hp} {l : Addr} {o : HO} : ∀ {ps : List Addr} {gs : List (List (List W))}, l ∉ ps → Rs H ps gs → Rs (upd H l o) ps gs
  | _, _, _, .nil => .nil
  | p :: ps, _, n, .cons h t => .cons (by rw [upd_ne (fun z => n (by rw [z]; exact List.mem_cons_self))]; exact h) (Rs.but (fun z => n (List.mem_cons_of_mem _ z)) t)
theorem Rs.has {H : Hp} {p : Addr} : ∀ {ps : List Addr} {gs : List (List (List W))}, Rs H ps gs → p ∈ ps → ∃ g : List (List W), H p = some (.lst (tx (g.map glue)))
  | _, _, .cons (b := g) h t, m => by
    rcases List.mem_cons.mp m with e | e
    · exact ⟨g, by rw [e]; exact h⟩
    · exact Rs.has t e
theorem Rs.snoc {H : Hp} {p : Addr} {g : List (List W)} (hp : H p = some (.lst (tx (g.map glue)))) : ∀ {ps : List Addr} {gs : List (List (List W))}, Rs H ps gs → Rs H (ps ++ [p]) (gs ++ [g])
  | _, _, .nil => .cons hp .nil
  | _, _, .cons h t => .cons h (Rs.snoc hp t)
def refs (ps : List Addr) : List V := ps.map V.ref
theorem refs_snoc (ps : List Addr) (p : Addr) : refs ps ++ [V.ref p] = refs (ps ++ [p]) := by
  unfold refs
  rw [List.map_append]
  rfl
theorem cutV_takeI (xs : List V) (k : Int) (h : 0 ≤ k) : cutV xs none (some k) = xs.take k.toNat := by
  obtain ⟨j, rfl⟩ := Int.eq_ofNat_of_zero_le h
  unfold cutV
  rw [HT.sIx_none, HT.sIx_nat, List.drop_zero, Nat.sub_zero]
  show xs.take (min j xs.length) = xs.take j
  rcases Nat.le_total j xs.length with z | z
  · rw [Nat.min_eq_left z]
  · rw [Nat.min_eq_right z, List.take_of_length_le z, List.take_length]
theorem tx_takeN (ws : List W) (k : Nat) : (tx ws).take k = tx (ws.take k) := by unfold tx; rw [← List.map_take]
theorem tx_dropN (ws : List W) (k : Nat) : (tx ws).drop k = tx (ws.drop k) := by unfold tx; rw [← List.map_drop]
theorem cutV_tx_drop (ws : List W) (k : Nat) (h : k ≤ ws.length) : cutV (tx ws) (some (k : Int)) none = tx (ws.drop k) := by
  rw [cutV_drop _ _ (by rw [tx_len]; exact h), tx_dropN]
theorem mem_nar {wide : Int} : ∀ {ws : List W} {u : W}, u ∈ nar wide ws → u ∈ ws
  | w :: r, u, h => by
    unfold nar at h
    split at h
    · rcases List.mem_cons.mp h with e | e
      · rw [e]; exact List.mem_cons_self
      · exact List.mem_cons_of_mem _ (mem_nar e)
    · exact (List.not_mem_nil h).elim
theorem nar_len {wide : Int} : ∀ {ws : List W}, (nar wide ws).length ≤ ws.length
  | [] => Nat.le_refl _
  | w :: r => by
    unfold nar
    split
    · exact Nat.succ_le_succ nar_len
    · exact Nat.zero_le _
theorem glue_ge : ∀ g : List W, (∀ u ∈ g, 1 ≤ u.length) → g.length ≤ (glue g).length
  | [], _ => Nat.le_refl _
  | [a], h => h a List.mem_cons_self
  | a :: b :: r, h => by
    have ih := glue_ge (b :: r) fun u hu => h u (List.mem_cons_of_mem _ hu)
    show (b :: r).length + 1 ≤ (a ++ 32 :: glue (b :: r)).length
    rw [List.length_append, List.length_cons (a := 32)]
    omega
def spWhole : Sp := fun vs H Q _ => ∃ (x : V) (t : T), vs = [x] ∧ At H x t ∧ Q (.bl (isI t)) H
def spLength : Sp := fun vs H Q _ => ∃ (x : V) (t : T), vs = [x] ∧ At H x t ∧ Q (.bl (lenB t)) H
def spRoom : Sp := fun vs H Q _ => ∃ (x : V) (t : T), vs = [x] ∧ At H x t ∧ small t ∧ ∀ H', Same H H' → Q (.bl (roomB t)) H'
def spRefR (C : Addr) : Sp := fun vs H Q E => ∃ x : V, vs = [x] ∧ (((∃ rs, GoodR H x rs) ∧ ∀ H', Same H H' → Q .non H') ∨ (BadR H x ∧ ∀ H', Same H H' → E (.ref C) none H'))
def spNar : Sp := fun vs H Q _ => ∃ (a : Addr) (ws : List W) (wide : Int), vs = [.ref a, .int wide] ∧ H a = some (.lst (tx ws)) ∧ (∀ u ∈ ws, okW u) ∧ ws.length ≤ 1000 ∧
  ∀ (l : Addr) (H' : Hp), Same H H' → H' l = some (.lst (tx (nar wide ws))) → Q (.ref l) H'
def spOn : Sp := fun vs H Q _ => ∃ (a : Addr) (gs : List (List W)), vs = [.ref a] ∧ H a = some (.lst (tx (gs.map glue))) ∧ (∀ g ∈ gs, g ≠ [] ∧ ∀ u ∈ g, okW u) ∧ (∀ g ∈ gs, (glue g).length ≤ 100000) ∧ gs.length ≤ 1000 ∧ ∀ H', Same H H' → Q (.int (gs.flatten.length : Nat)) H'
def spPour (CT CN : Addr) : Sp := fun vs H Q E => ∃ x y : V, vs = [x, y] ∧
  ((∃ (a : Addr) (ws : List W), x = .ref a ∧ H a = some (.lst (tx ws)) ∧ (∀ u ∈ ws, okW u) ∧ ws.length ≤ 1000 ∧
    ((∃ rs, GoodR H y rs ∧ ∀ (t lf ll : Addr) (ps : List Addr) (H' : Hp), Same H H' → (lf :: ll :: ps).Nodup → (∀ p ∈ lf :: ll :: ps, H p = none) → H' t = some (.tup [.ref lf, .ref ll]) → H' lf = some (.lst (refs ps)) → H' ll = some (.lst (tx (ws.drop (pour ws rs).2))) →
      Rs H' ps (pour ws rs).1 → Q (.ref t) H') ∨ (BadR H y ∧ ∀ H', Same H H' → E (.ref CN) none H'))) ∨
  (Bad H x ∧ ∀ H', Same H H' → E (.ref CT) none H'))
section
variable {P : Program} {w : World} {K : PySem.W.Frag} {mg : Str → Option Value} {base : Heap}
theorem scWhole : FnScope ["thing"] ["thing"] (defScope sWhole) := ⟨rfl, rfl, rfl, by decide +kernel, rfl, by decide +kernel, by decide +kernel⟩
theorem ok_whole {f : Addr} {fd : FuncData} (F : Fun K "is_whole" "is_whole" sWhole f fd) (Z : Nr K mg) : FnOk P w K mg base CX0 1 f fd ["thing"] spWhole := by
  obtain ⟨ti, tint, tbool, ttup, tlist, tl, tall, tany, tsum, te, kI, kB, kT, kL⟩ := Z
  refine F.ok scWhole (fun vs H Q E h => ?_) (fun cdv A outer s H vs Q E hr h => ?_)
  · obtain ⟨x, t, rfl, _⟩ := h
    rfl
  · obtain ⟨x, t, rfl, hA, q⟩ := h
    refine ⟨_, (pss_one (ps_ret (pe_and (pe_callB call_isi (by rfl) ti PyProof.Rows.boot_isinstance (pa_cons (pv 0) (pa_cons (pe_tyn rfl tint PyProof.Rows.boot_int) pa_nil))) (pe_one (pe_not (pe_callB call_isi (by rfl) ti PyProof.Rows.boot_isinstance (pa_cons (pv 0) (pa_cons (pe_tyn rfl tbool PyProof.Rows.boot_bool) pa_nil)))))))), ?_⟩
    refine ⟨_, rfl, _, _, _, _, rfl, rfl, hA.ty, kI t, _, rfl, ?_⟩
    have e : isI t = (isIB t && !isBl t) := by cases t <;> rfl
    rw [e] at q
    cases h1 : isIB t with
    | false =>
      rw [h1] at q
      exact iteF q
    | true =>
      rw [h1] at q
      exact iteT ⟨_, rfl, _, _, _, _, rfl, rfl, hA.ty, kB t, _, rfl, q⟩
theorem scLength : FnScope ["thing"] ["thing"] (defScope sLength) := ⟨rfl, rfl, rfl, by decide +kernel, rfl, by decide +kernel, by decide +kernel⟩
theorem ok_length {f fW : Addr} {fd fdW : FuncData} (F : Fun K "is_length" "is_length" sLength f fd) (Wh : Callee P w K mg base CX0 1 "is_whole" fW fdW ["thing"] spWhole) : FnOk P w K mg base CX0 2 f fd ["thing"] spLength := by
  refine F.ok scLength (fun vs H Q E h => ?_) (fun cdv A outer s H vs Q E hr h => ?_)
  · obtain ⟨x, t, rfl, _⟩ := h
    rfl
  · obtain ⟨x, t, rfl, hA, q⟩ := h
    refine ⟨_, (pss_one (ps_ret (pe_and (pe_call Wh.ok hr rfl Wh.bound Wh.kp Wh.bd .nil pass0 (pa_cons (pv 0) pa_nil)) (pe_one (pe_cmpR op_ge (pv 0) pe_int (nomark _)))))), ?_⟩
    refine ⟨_, rfl, x, t, rfl, hA, _, rfl, ?_⟩
    cases hA with
    | int i => exact iteT (evl_I0 (evl_var rfl) evl_c _ q)
    | non => exact iteF q
    | bl b => exact iteF q
    | str x => exact iteF q
    | lst e => exact iteF q
    | dic e => exact iteF q
    | tup e h => exact iteF q
theorem scRoom : FnScope ["thing"] ["thing"] (defScope sRoom) := ⟨rfl, rfl, rfl, by decide +kernel, rfl, by decide +kernel, by decide +kernel⟩
theorem ok_room {f fL : Addr} {fd fdL : FuncData} (F : Fun K "is_room" "is_room" sRoom f fd) (Z : Nr K mg) (Le : Callee P w K mg base CX0 2 "is_length" fL fdL ["thing"] spLength) : FnOk P w K mg base CX0 3 f fd ["thing"] spRoom := by
  obtain ⟨ti, tint, tbool, ttup, tlist, tl, tall, tany, tsum, te, kI, kB, kT, kL⟩ := Z
  refine F.ok scRoom (fun vs H Q E h => ?_) (fun cdv A outer s H vs Q E hr h => ?_)
  · obtain ⟨x, t, rfl, _⟩ := h
    rfl
  · obtain ⟨x, t, rfl, hA, sm, q⟩ := h
    refine ⟨_, (pss_one (ps_ret (pe_and (pe_callB call_isi (by rfl) ti PyProof.Rows.boot_isinstance (pa_cons (pv 0) (pa_cons (pe_tyn rfl ttup PyProof.Rows.boot_tuple) pa_nil))) (pe_and (pe_cmpR op_eq (pe_callB call_len_seq (by rfl) tl PySem.boot_len (pa_cons (pv 0) pa_nil)) pe_int (nomark _)) (pe_one (pe_callB (call_allL rfl) (by rfl) tall PyProof.Rows.boot_all (pa_cons (pe_comp (Nc := ["part"]) (ix := [none]) rfl rfl (by exact (pi_tup (pv 0))) (fun _ _ _ _ _ => (pg_name (i := 0) (by show (["part"] : List Str).Nodup; decide +kernel) rfl (Or.inl rfl))) (fun _ _ _ _ _ => pts_nil) (fun _ _ _ _ _ => (pe_call Le.ok hr rfl Le.bound Le.kp Le.bd .nil pass0 (pa_cons (pv 0) pa_nil)))) pa_nil))))))), ?_⟩
    refine ⟨_, rfl, _, _, _, _, rfl, rfl, hA.ty, kT t, _, rfl, ?_⟩
    have q0 := q H (Same.refl _)
    cases hA with
    | int i => exact iteF q0
    | non => exact iteF q0
    | bl b => exact iteF q0
    | str x => exact iteF q0
    | lst e => exact iteF q0
    | dic e => exact iteF q0
    | @tup a us ss e hL =>
      have ln := hL.len
      have sm : ss.length ≤ 1000 := sm
      refine iteT ⟨_, rfl, _, _, rfl, .inr (SqT.of e), rfl, _, rfl, ?_⟩
      have d : decide (V.int ((us.length : Nat) : Int) = V.int 2) = decide (ss.length = 2) := by
        rw [dec_int, Bool.eq_iff_iff, beq_iff_eq, decide_eq_true_eq]
        omega
      rw [d]
      have q : ∀ H', Same H H' → Q (.bl (decide (ss.length = 2) && ss.all lenB)) H' := q
      by_cases h2 : ss.length = 2
      · rw [decide_eq_true h2] at q ⊢
        refine iteT ?_
        refine ⟨_, rfl, a, rfl, ⟨_, SqT.of e⟩, cmp_tup (K := K) (a := a) (xs := us) (fun i ys σ H' => ys = ((ss.take i).map lenB).map V.bl ∧ H' = H ∧ ∃ o, σ = [o]) ⟨rfl, rfl, none, rfl⟩
            (fun i ys σ H' hi ⟨e1, e3, _⟩ => ⟨by rw [e1, List.length_map, List.length_map, List.length_take]; exact Nat.le_trans (show _ ≤ 1000000 by omega) (by decide), by rw [e3]; exact SqT.of e⟩) ?_ ?_⟩
        · rintro ys σ H' ⟨e3, rfl, _⟩ la nl
          rw [ln, List.take_length] at e3
          subst e3
          refine ⟨la, ss.map lenB, rfl, SqL.of upd_same, ?_⟩
          rw [List.all_map]
          exact q _ (same_new nl)
        · rintro i x ys σ H' hx ⟨e3, rfl, o, rfl⟩
          subst e3
          obtain ⟨p, ep, hAp⟩ := hL.get hx
          obtain ⟨hil, ev⟩ := List.getElem?_eq_some_iff.mp ep
          dsimp only [gName, tYes]
          refine iteT ?_
          refine ⟨_, rfl, x, p, rfl, hAp, ?_, rfl, _, rfl⟩
          rw [← List.take_append_getElem hil, ev, List.map_append, List.map_append]
          rfl
      · rw [decide_eq_false h2] at q ⊢
        exact iteF (q H (Same.refl _))
theorem scRefR : FnScope ["things"] ["things"] (defScope sRefR) := ⟨rfl, rfl, rfl, by decide +kernel, rfl, by decide +kernel, by decide +kernel⟩
theorem ok_refR {f fS C : Addr} {fd fdS : FuncData} (F : Fun K "refuse_no_rooms" "refuse_no_rooms" sRefR f fd) (Z : Nr K mg) (ex : Exc K mg "NoNeeds" C) (Ro : Callee P w K mg base CX0 3 "is_room" fS fdS ["thing"] spRoom) : FnOk P w K mg base (CXE P w) 4 f fd ["things"] (spRefR C) := by
  obtain ⟨ti, tint, tbool, ttup, tlist, tl, tall, tany, tsum, te, kI, kB, kT, kL⟩ := Z
  refine F.okE scRefR (fun vs H Q E h => ?_) (fun cdv A outer s H vs Q E hr hh h => ?_)
  · obtain ⟨x, rfl, _⟩ := h
    rfl
  · obtain ⟨x, rfl, h⟩ := h
    refine ⟨_, (pss_one (ps_if (PW.pt (pw_or (pt_not (pt_val (pe_callB call_isi (by rfl) ti PyProof.Rows.boot_isinstance (pa_cons (pv 0) (pa_cons (pe_tyn rfl tlist PyProof.Rows.boot_list) pa_nil))))) (pw_or1 (pt_not (pt_val (pe_callB (call_allL rfl) (by rfl) tall PyProof.Rows.boot_all (pa_cons (pe_comp (Nc := ["thing"]) (ix := [none]) rfl rfl (by refine' pi_list ?zz; case zz => exact (pv 0)) (fun _ _ _ _ _ => (pg_name (i := 0) (by show (["thing"] : List Str).Nodup; decide +kernel) rfl (Or.inl rfl))) (fun _ _ _ _ _ => pts_nil) (fun _ _ _ _ _ => (pe_call Ro.ok hr rfl Ro.bound Ro.kp Ro.bd .nil pass0 (pa_cons (pv 0) pa_nil)))) pa_nil)))))))
      (pss_one (ps_raise ex hh rfl (pa_cons pe_str pa_nil)))
      pss_nil)), ?_⟩
    have key : (∃ (a : Addr) (xs : List V) (ts : List T), x = .ref a ∧ H a = some (.lst xs) ∧ AtL H xs ts ∧ (∀ t ∈ ts, small t) ∧ xs.length ≤ 1000 ∧ (ts.all roomB = true → ∀ H', Same H H' → Q .non H') ∧ (ts.all roomB = false → ∀ H', Same H H' → E (.ref C) none H')) ∨
        ∃ t, At H x t ∧ isLs t = false ∧ ∀ H', Same H H' → E (.ref C) none H' := by
      rcases h with ⟨⟨rs, a, xs, e, ha, hA, ok, hn⟩, q⟩ | ⟨⟨a, xs, ts, e, ha, hA, sm, hn, hb⟩ | ⟨t, hA, ht⟩, qe⟩
      · refine .inl ⟨a, xs, rs.map rT, e, ha, hA, fun t ht => ?_, by rw [hA.len, List.length_map]; exact hn, fun _ => q, fun z => ?_⟩
        · obtain ⟨r, _, rfl⟩ := List.mem_map.mp ht
          exact rT_small r
        · exfalso
          rw [List.all_map] at z
          have : rs.all (roomB ∘ rT) = true := List.all_eq_true.mpr fun r hr => room_rT (ok r hr)
          rw [this] at z
          cases z
      · exact .inl ⟨a, xs, ts, e, ha, hA, sm, hn, fun z => by rw [hb] at z; (cases z), fun _ => qe⟩
      · exact .inr ⟨t, hA, ht, qe⟩
    rcases key with ⟨a, xs, ts, rfl, ha, hA, sm, hn, q, qe⟩ | ⟨t, hA, ht, qe⟩
    · refine ⟨_, rfl, _, _, _, _, rfl, rfl, .of (.lst ha), rfl, _, rfl, iteF ?_⟩
      have ln := hA.len
      refine ⟨_, rfl, a, rfl, ⟨_, SqL.of ha⟩, cmp_list (K := K) (a := a) (xs := xs) (fun i ys σ H' => ys = ((ts.take i).map roomB).map V.bl ∧ Same H H' ∧ ∃ o, σ = [o]) ⟨rfl, Same.refl _, none, rfl⟩
        (fun i ys σ H' hi ⟨e, S, _⟩ => ⟨by rw [e, List.length_map, List.length_map, List.length_take]; exact Nat.le_trans (show _ ≤ 1000 by omega) (by decide), SqL.of (S _ _ ha)⟩) ?_ ?_⟩
      · rintro ys σ H' ⟨e, S, _⟩ la nl
        rw [ln, List.take_length] at e
        subst e
        refine ⟨la, ts.map roomB, rfl, SqL.of upd_same, _, rfl, ?_⟩
        have S2 := S.trans (same_new (o := .lst ((ts.map roomB).map V.bl)) nl)
        have e2 : (ts.map roomB).all id = ts.all roomB := by rw [List.all_map]; rfl
        rw [e2]
        cases hb : ts.all roomB with
        | true => exact iteF (q hb _ S2)
        | false => exact iteT ⟨by show 1 ≤ sizeLine; decide, qe hb _ S2⟩
      · rintro i x ys σ H' hx ⟨e, S, o, rfl⟩
        subst e
        obtain ⟨t, et, hAt⟩ := hA.get hx
        obtain ⟨hil, ev⟩ := List.getElem?_eq_some_iff.mp et
        dsimp only [gName, tYes]
        refine iteT ?_
        refine ⟨_, rfl, x, t, rfl, hAt.same S, sm t (List.mem_of_getElem? et), fun H2 S2 => ⟨?_, S.trans S2, _, rfl⟩⟩
        rw [← List.take_append_getElem hil, ev, List.map_append, List.map_append]
        rfl
    · refine ⟨_, rfl, _, _, _, _, rfl, rfl, hA.ty, kL t, _, rfl, ?_⟩
      rw [ht]
      exact iteT (iteT ⟨by show 1 ≤ sizeLine; decide, qe H (Same.refl _)⟩)
theorem scNar : FnScope ["words", "wide", "number", "word"] ["words", "wide"] (defScope sNar) := ⟨rfl, rfl, rfl, by decide +kernel, rfl, by decide +kernel, by decide +kernel⟩
theorem ok_nar {f : Addr} {fd : FuncData} (F : Fun K "narrow_ones" "narrow_ones" sNar f fd) (Z : Nr K mg) : FnOk P w K mg base CX0 1 f fd ["words", "wide"] spNar := by
  obtain ⟨ti, tint, tbool, ttup, tlist, tl, tall, tany, tsum, te, kI, kB, kT, kL⟩ := Z
  refine F.ok scNar (fun vs H Q E h => ?_) (fun cdv A outer s H vs Q E hr h => ?_)
  · obtain ⟨a, ws, wide, rfl, _⟩ := h
    rfl
  · obtain ⟨a, ws, wide, rfl, ha, hw, hn, q⟩ := h
    refine ⟨_, (pss_cons (ps_for PassesOwn.never rfl (pi_enumL rfl te (pa_cons (pv 0) pa_nil)) (pg_tup rfl (pgs_cons (pg_name (i := 2) scNar.nd rfl (Or.inl rfl)) (pgs_cons (pg_name (i := 3) scNar.nd rfl (Or.inl rfl)) pgs_nil)))
      (pss_one (ps_if (pt_cmpR op_gt (pe_callB call_len_str (by rfl) tl PySem.boot_len (pa_cons (pv 3) pa_nil)) (pv 1) (nomark _))
        (pss_one (ps_ret (pe_slice sl_list (pv 0) po_none (po_some (pv 2)))))
        pss_nil)))
      (pss_one (ps_ret (pv 0)))), ?_⟩
    refine ⟨_, rfl, a, rfl, ⟨_, SqL.of ha⟩, for_enumL (K := K) (a := a) (xs := tx ws) (fun i σ H2 => ∃ o1 o2 : Option V, σ = [some (.ref a), some (.int wide), o1, o2] ∧ Same H H2 ∧ ∀ u ∈ ws.take i, (u.length : Int) ≤ wide)
      ⟨none, none, rfl, Same.refl _, fun u hu => by rw [List.take_zero] at hu; exact (List.not_mem_nil hu).elim⟩ (fun i σ H2 _ ⟨_, _, _, S, _⟩ => SqL.of (S _ _ ha)) ?_ ?_⟩
    · rintro i x σ H2 p hx ⟨o1, o2, rfl, S, hle⟩ np
      obtain ⟨v, hv, rfl⟩ := tx_get' hx
      obtain ⟨hil, ev⟩ := List.getElem?_eq_some_iff.mp hv
      have S3 := S.trans (same_new (o := .tup [.int i, .str (txt v)]) np)
      refine ⟨p, _, rfl, SqT.of upd_same, rfl, _, _, rfl, _, _, rfl, rfl, ?_⟩
      generalize upd H2 p (.tup [.int i, .str (txt v)]) = H3 at S3
      refine tst_of (p := wide < (v.length : Int)) (evl_I0 (evl_lenS (evl_var rfl) (Nat.le_trans (hw v (List.mem_of_getElem? hv)).2.1 (by decide))) (evl_var rfl)) _ ?_
      dsimp only
      refine ite2 (fun c => ?_) (fun c => ?_)
      · have c := of_decide_eq_true c
        refine ⟨_, rfl, _, rfl, _, rfl, a, _, rfl, SqL.of (S3 _ _ ha), fun l nl => ?_⟩
        refine q l _ (S3.trans (same_new nl)) ?_
        rw [upd_same, cutV_takeI _ _ (by omega), tx_takeN, Int.toNat_natCast, nar_take hle]
        intro u hu
        rw [hv] at hu
        cases hu
        exact c
      · have c : ¬ wide < (v.length : Int) := fun z => c (decide_eq_true z)
        refine ⟨_, _, rfl, S3, fun u hu => ?_⟩
        rw [← List.take_append_getElem hil, ev] at hu
        rcases List.mem_append.mp hu with m | m
        · exact hle u m
        · rw [List.mem_singleton.mp m]
          omega
    · rintro σ H2 ⟨o1, o2, rfl, S, hle⟩
      rw [tx_len, List.take_length] at hle
      refine ⟨_, rfl, q a H2 S ?_⟩
      rw [nar_all hle]
      exact S _ _ ha
theorem sum_lens : ∀ gs : List (List W), (gs.map fun g => (g.length : Int)).sum = (gs.flatten.length : Nat)
  | [] => rfl
  | g :: r => by
    rw [List.map_cons, List.sum_cons, sum_lens r, List.flatten_cons, List.length_append]
    omega
theorem free32 {u : W} (h : okW u) : u ≠ [] ∧ 32 ∉ u := ⟨fun z => by have := h.1; rw [z] at this; exact absurd this (by decide), fun z => by
  have := h.2.2 32 z
  unfold good at this
  omega⟩
theorem scOn : FnScope ["rows"] ["rows"] (defScope sOn) := ⟨rfl, rfl, rfl, by decide +kernel, rfl, by decide +kernel, by decide +kernel⟩
theorem ok_on {f : Addr} {fd : FuncData} (F : Fun K "words_on" "words_on" sOn f fd) (Z : Nr K mg) : FnOk P w K mg base CX0 1 f fd ["rows"] spOn := by
  obtain ⟨ti, tint, tbool, ttup, tlist, tl, tall, tany, tsum, te, kI, kB, kT, kL⟩ := Z
  refine F.ok scOn (fun vs H Q E h => ?_) (fun cdv A outer s H vs Q E hr h => ?_)
  · obtain ⟨a, gs, rfl, _⟩ := h
    rfl
  · obtain ⟨a, gs, rfl, ha, hg, hb, hn, q⟩ := h
    refine ⟨_, (pss_one (ps_ret (pe_callB (call_sumG rfl) (by rfl) tsum PyProof.Rows.boot_sum (pa_cons (pe_comp (Nc := ["row"]) (ix := [none]) rfl rfl (by refine' pi_list ?zz; case zz => exact (pv 0)) (fun _ _ _ _ _ => (pg_name (i := 0) (by show (["row"] : List Str).Nodup; decide +kernel) rfl (Or.inl rfl))) (fun _ _ _ _ _ => pts_nil) (fun _ _ _ _ _ => (pe_callB (call_lenK (K := K) rfl) (by rfl) tl PySem.boot_len (by exact (pa_cons (pe_bmK (K := K) rfl PySem.F.plainAttrs_str PySem.F.slot_str_split PySem.F.type_str_split mt_splitB (pv 0) (pa_cons pe_str pa_nil)) pa_nil))))) pa_nil)))), ?_⟩
    refine ⟨_, rfl, a, rfl, ⟨_, SqL.of ha⟩, cmp_list (K := K) (a := a) (xs := tx (gs.map glue)) (fun i ys σ H' => ys = ((gs.take i).map fun g => (g.length : Int)).map V.int ∧ Same H H' ∧ ∃ o, σ = [o]) ⟨rfl, Same.refl _, none, rfl⟩
        (fun i ys σ H' hi ⟨e, S, _⟩ => ⟨by rw [e, List.length_map, List.length_map, List.length_take]; exact Nat.le_trans (show _ ≤ 1000 by omega) (by decide), SqL.of (S _ _ ha)⟩) ?_ ?_⟩
    · rintro ys σ H' ⟨e, S, _⟩ la nl
      rw [tx_len, List.length_map, List.take_length] at e
      subst e
      refine ⟨la, _, rfl, SqL.of upd_same, ?_⟩
      rw [sum_lens]
      exact q _ (S.trans (same_new nl))
    · rintro i x ys σ H' hx ⟨e, S, o, rfl⟩
      subst e
      obtain ⟨v, hv, rfl⟩ := tx_get' hx
      rw [List.getElem?_map] at hv
      obtain ⟨g, eg, rfl⟩ : ∃ g, gs[i]? = some g ∧ v = glue g := by
        cases e : gs[i]? with
        | none => rw [e] at hv; cases hv
        | some g => rw [e] at hv; cases hv; exact ⟨g, rfl, rfl⟩
      obtain ⟨hil, ev⟩ := List.getElem?_eq_some_iff.mp eg
      have mg := hg g (List.mem_of_getElem? eg)
      have bg := hb g (List.mem_of_getElem? eg)
      dsimp only [gName, tYes]
      refine iteT ?_
      have lg : g.length ≤ 1000000 := by
        have := glue_ge g (fun u hu => (mg.2 u hu).1)
        omega
      refine ⟨_, rfl, rfl, g, rfl, rfl, mg.1, (fun u hu => free32 (mg.2 u hu)), by omega, lg, fun l nl => ?_⟩
      refine ⟨l, _, rfl, .inl (SqL.of upd_same), ?_, S.trans (same_new nl), _, rfl⟩
      rw [List.length_map, ← List.take_append_getElem hil, ev, List.map_append, List.map_append]
      rfl
end
end KS
set_option Elab.async false
set_option linter.all false
set_option maxRecDepth 100000
set_option maxHeartbeats 1000000
namespace KS
open PySem L2 Lin PySem.W
open Tre (T)
theorem lns_mem {wide : Int} {h : Nat} {ws : List W} : ∀ g ∈ lns wide h ws, ∀ u ∈ g, u ∈ ws := fun g hg u hu => by
  have : u ∈ (lns wide h ws).flatten := List.mem_flatten.mpr ⟨g, hg, hu⟩
  rw [lns_flat] at this
  exact List.mem_of_mem_take this
theorem AtL.room {H : Hp} {xs : List V} {rs : List Rm} (h : AtL H xs (rs.map rT)) {i : Nat} {x : V} (hx : xs[i]? = some x) : ∃ (r : Rm) (p : Addr), rs[i]? = some r ∧ x = .ref p ∧ H p = some (.tup [.int r.1, .int r.2]) := by
  obtain ⟨t, et, hA⟩ := h.get hx
  rw [List.getElem?_map] at et
  cases e : rs[i]? with
  | none => rw [e] at et; cases et
  | some r =>
    rw [e] at et
    cases et
    cases hA with
    | @tup a us ss e1 hL =>
    cases hL with
    | @cons u0 _ _ _ h0 hr =>
    cases h0
    cases hr with
    | @cons u1 _ _ _ h1 hr2 =>
    cases h1
    cases hr2
    exact ⟨r, a, rfl, rfl, e1⟩
section
variable {P : Program} {w : World} {K : PySem.W.Frag} {mg : Str → Option Value} {base : Heap}
theorem scPour : FnScope ["words", "rooms", "filled", "used", "wide", "high", "rows"] ["words", "rooms"] (defScope sPour) := ⟨rfl, rfl, rfl, by decide +kernel, rfl, by decide +kernel, by decide +kernel⟩
theorem ok_pour {f CT CN fRe fRr fTa fNa fOn : Addr} {fd dRe dRr dTa dNa dOn : FuncData} (F : Fun K "poured" "poured" sPour f fd)
    (Re : Callee P w K mg base (CXE P w) 4 "refuse_no_words" fRe dRe ["things"] (spRefuse CT)) (Rr : Callee P w K mg base (CXE P w) 4 "refuse_no_rooms" fRr dRr ["things"] (spRefR CN))
    (Ta : Callee P w K mg base CX0 1 "taken" fTa dTa ["words", "wide"] spTaken) (Na : Callee P w K mg base CX0 1 "narrow_ones" fNa dNa ["words", "wide"] spNar)
    (On : Callee P w K mg base CX0 1 "words_on" fOn dOn ["rows"] spOn) : FnOk P w K mg base (CXE P w) 5 f fd ["words", "rooms"] (spPour CT CN) := by
  refine F.okE scPour (fun vs H Q E h => ?_) (fun cdv A outer s H vs Q E hr hh h => ?_)
  · obtain ⟨x, y, rfl, _⟩ := h
    rfl
  · obtain ⟨x, y, rfl, h⟩ := h
    refine ⟨_, (pss_cons (ps_expr (pe_call Re.ok hr rfl Re.bound Re.kp Re.bd .nil passEE (pa_cons (pv 0) pa_nil)))
      (pss_cons (ps_expr (pe_call Rr.ok hr rfl Rr.bound Rr.kp Rr.bd .nil passEE (pa_cons (pv 1) pa_nil)))
      (pss_cons (ps_set (i := 2) scPour.nd rfl (Or.inl rfl) (pe_lst pa_nil))
      (pss_cons (ps_set (i := 3) scPour.nd rfl (Or.inl rfl) pe_int)
      (pss_cons (PS.nox (ps_for PassesOwn.never rfl (pi_list (pv 1)) (pg_tup rfl (pgs_cons (pg_name (i := 4) scPour.nd rfl (Or.inl rfl)) (pgs_cons (pg_name (i := 5) scPour.nd rfl (Or.inl rfl)) pgs_nil)))
      (pss_cons (ps_set (i := 6) scPour.nd rfl (Or.inl rfl) (pe_slice sl_list (pe_call Ta.ok (hr.mono (show 1 ≤ 4 by decide)) rfl Ta.bound Ta.kp Ta.bd .nil pass0 (pa_cons (pe_call Na.ok (hr.mono (show 1 ≤ 4 by decide)) rfl Na.bound Na.kp Na.bd .nil pass0 (pa_cons (pe_slice sl_list (pv 0) (po_some (pv 3)) po_none) (pa_cons (pv 4) pa_nil))) (pa_cons (pv 4) pa_nil))) po_none (po_some (pv 5))))
        (pss_cons (ps_expr (pe_bm PySem.F.plainAttrs_list PySem.F.slot_list_append PySem.F.type_list_append mt_append (pv 2) (pa_cons (pv 6) pa_nil)))
        (pss_one (ps_aug (i := 3) scPour.nd rfl (Or.inl rfl) (pe_call On.ok (hr.mono (show 1 ≤ 4 by decide)) rfl On.bound On.kp On.bd .nil pass0 (pa_cons (pv 6) pa_nil)) ip_add))))))
      (pss_one (ps_ret (pe_tup (pa_cons (pv 2) (pa_cons (pe_slice sl_list (pv 0) (po_some (pv 3)) po_none) pa_nil)))))))))), ?_⟩
    rcases h with ⟨a, ws, rfl, ha, hw, hn, h⟩ | ⟨bad, qe⟩
    case inr => exact ⟨_, rfl, _, rfl, .inr ⟨bad, qe⟩⟩
    refine ⟨_, rfl, _, rfl, .inl ⟨a, ws, rfl, ha, hw, hn, fun H1 S1 => ?_⟩⟩
    rcases h with ⟨rs, hR, q⟩ | ⟨bad, qe⟩
    case inr => exact ⟨_, rfl, _, rfl, .inr ⟨bad.same S1, fun H2 S2 => qe H2 (S1.trans S2)⟩⟩
    refine ⟨_, rfl, _, rfl, .inl ⟨⟨rs, hR.same S1⟩, fun H2 S2 => ?_⟩⟩
    have S12 := S1.trans S2
    clear S1 S2
    obtain ⟨b, xs, rfl, hb, hA, ok, hrn⟩ := hR
    have ln := hA.len
    rw [List.length_map] at ln
    refine ⟨by show 0 ≤ sizeLine; decide, fun lf nlf => ?_⟩
    have S3 := S12.trans (same_new (o := .lst []) nlf)
    have hlf : (upd H2 lf (.lst [])) lf = some (.lst []) := upd_same
    generalize upd H2 lf (.lst []) = H3 at S3 hlf
    have flf : H lf = none := S12.free nlf
    clear S12
    refine ⟨_, rfl, b, rfl, ⟨_, SqL.of (S3 _ _ hb)⟩, for_list (K := K) (a := b) (xs := xs) (fun i σ H4 => ∃ (o4 o5 o6 : Option V) (ps : List Addr), σ = [some (.ref a), some (.ref b), some (.ref lf), some (.int ((pour ws (rs.take i)).2 : Nat)), o4, o5, o6] ∧ Same H H4 ∧
        H4 lf = some (.lst (refs ps)) ∧ (lf :: ps).Nodup ∧ (∀ p ∈ ps, H p = none) ∧ ps.length = i ∧ Rs H4 ps (pour ws (rs.take i)).1) ⟨none, none, none, [], rfl, S3, hlf, by simp, fun p hp => (List.not_mem_nil hp).elim, rfl, .nil⟩
      (fun i σ H4 _ ⟨_, _, _, _, _, S, _⟩ => SqL.of (S _ _ hb)) ?_ ?_⟩
    · rintro i x σ H4 hx ⟨o4, o5, o6, ps, rfl, S4, hl4, nd, fr, lp, hRs⟩
      obtain ⟨r, p, er, rfl, hp⟩ := hA.room hx
      obtain ⟨hil, ev⟩ := List.getElem?_eq_some_iff.mp er
      have okr := ok r (List.mem_of_getElem? er)
      have ul := pour_le ws (rs.take i)
      have es : pour ws (rs.take (i + 1)) = step ws (pour ws (rs.take i)) r := by rw [← List.take_append_getElem hil, ev, pour_snoc]
      rw [es]
      generalize pour ws (rs.take i) = st at ul hRs
      obtain ⟨acc, u⟩ := st
      have ul : u ≤ ws.length := ul
      refine ⟨p, _, rfl, SqT.of (S4 _ _ hp), rfl, _, _, rfl, _, _, rfl, rfl, ?_⟩
      dsimp only
      refine ⟨_, rfl, _, rfl, _, rfl, a, _, rfl, SqL.of (S4 _ _ ha), fun pc nc => ?_⟩
      rw [cutV_tx_drop ws u ul]
      have S5 := same_new (o := .lst (tx (ws.drop u))) nc
      have hpc : (upd H4 pc (.lst (tx (ws.drop u)))) pc = some (.lst (tx (ws.drop u))) := upd_same
      generalize upd H4 pc (.lst (tx (ws.drop u))) = H5 at S5 hpc
      have hwd : ∀ v ∈ ws.drop u, okW v := fun v hv => hw v (List.mem_of_mem_drop hv)
      have hnd : (ws.drop u).length ≤ 1000 := by rw [List.length_drop]; omega
      refine ⟨_, rfl, pc, ws.drop u, r.1, rfl, hpc, hwd, hnd, fun l6 H6 S6 h6 => ?_⟩
      have hnn := nar_len (wide := r.1) (ws := ws.drop u)
      refine ⟨_, rfl, l6, _, r.1, rfl, h6, (fun v hv => hwd v (mem_nar hv)), by omega, fun l7 H7 S7 n7 h7 => ?_⟩
      refine ⟨_, rfl, _, rfl, l7, _, rfl, SqL.of h7, fun l8 n8 => ?_⟩
      rw [cutV_takeI _ _ (by have := okr.2; omega), tx_takeN, lns_taken]
      have bt := taken_bound r.1 (nar r.1 (ws.drop u)) (fun v hv => (hwd v (mem_nar hv)).2.1)
      have hgl : ∀ g ∈ lns r.1 r.2.toNat (ws.drop u), (glue g).length ≤ 100000 := fun g hg => by
        have : glue g ∈ (lns r.1 r.2.toNat (ws.drop u)).map glue := List.mem_map.mpr ⟨g, hg, rfl⟩
        rw [← lns_taken] at this
        have := bt _ (List.mem_of_mem_take this)
        omega
      have hll : (lns r.1 r.2.toNat (ws.drop u)).length ≤ 1000 := by
        have e : (lns r.1 r.2.toNat (ws.drop u)).length = ((lns r.1 r.2.toNat (ws.drop u)).map glue).length := (List.length_map _).symm
        rw [e, ← lns_taken, List.length_take]
        have := taken_len_le r.1 (nar r.1 (ws.drop u))
        omega
      have hgo : ∀ g ∈ lns r.1 r.2.toNat (ws.drop u), g ≠ [] ∧ ∀ v ∈ g, okW v := fun g hg => ⟨lns_ne g hg, fun v hv => hwd v (lns_mem g hg v hv)⟩
      have S47 := S5.trans (S6.trans S7)
      have S8 := same_new (o := .lst (tx ((lns r.1 r.2.toNat (ws.drop u)).map glue))) n8
      have h8 : (upd H7 l8 (.lst (tx ((lns r.1 r.2.toNat (ws.drop u)).map glue)))) l8 = some (.lst (tx ((lns r.1 r.2.toNat (ws.drop u)).map glue))) := upd_same
      have n84 : H4 l8 = none := S47.free n8
      have S48 := S47.trans S8
      generalize upd H7 l8 (.lst (tx ((lns r.1 r.2.toNat (ws.drop u)).map glue))) = H8 at S8 h8 S48
      have h8lf : l8 ≠ lf := fun z => by rw [z, hl4] at n84; cases n84
      refine ⟨_, rfl, .inl ⟨rfl, _, SqL.of (S48 _ _ hl4)⟩, _, rfl, lf, _, _, rfl, rfl, S48 _ _ hl4, ?_, ?_⟩
      · unfold refs
        rw [List.length_map, lp]
        exact Nat.lt_of_le_of_lt (show i ≤ 1000 by omega) (by decide)
      rw [refs_snoc]
      have S9 : Same H (upd H8 lf (.lst (refs (ps ++ [l8])))) := same_upd (S4.trans S48) flf
      have h9 : (upd H8 lf (.lst (refs (ps ++ [l8])))) l8 = some (.lst (tx ((lns r.1 r.2.toNat (ws.drop u)).map glue))) := (upd_ne h8lf).trans h8
      have hl9 : (upd H8 lf (.lst (refs (ps ++ [l8])))) lf = some (.lst (refs (ps ++ [l8]))) := upd_same
      have hR9 : Rs (upd H8 lf (.lst (refs (ps ++ [l8])))) ps acc := Rs.but (fun z => (List.nodup_cons.mp nd).1 z) (hRs.same S48)
      generalize upd H8 lf (.lst (refs (ps ++ [l8]))) = H9 at S9 h9 hl9 hR9
      refine ⟨_, rfl, _, rfl, l8, _, rfl, h9, hgo, hgl, hll, fun H10 S10 => ⟨_, _, rfl, rfl, ?_⟩⟩
      refine ⟨some (.int r.1), some (.int r.2), some (.ref l8), ps ++ [l8], ?_, S9.trans S10, S10 _ _ hl9, ?_, ?_, by rw [List.length_append, lp]; rfl, (hR9.same S10).snoc (S10 _ _ h9)⟩
      · show _ = ([some (.ref a), some (.ref b), some (.ref lf), some (.int ((u + used r.1 r.2.toNat (ws.drop u) : Nat) : Int)), some (.int r.1), some (.int r.2), some (.ref l8)] : List (Option V))
        rw [Int.natCast_add]
        rfl
      · have l8p : l8 ∉ ps := fun z => by
          obtain ⟨g, hg⟩ := hRs.has z
          rw [n84] at hg
          cases hg
        rw [List.nodup_cons] at nd ⊢
        refine ⟨fun z => ?_, List.nodup_append.mpr ⟨nd.2, by simp, ?_⟩⟩
        · rcases List.mem_append.mp z with m | m
          · exact nd.1 m
          · exact h8lf (List.mem_singleton.mp m).symm
        · intro c hc d hd
          rw [List.mem_singleton.mp hd]
          exact fun z => l8p (z ▸ hc)
      · intro c hc
        rcases List.mem_append.mp hc with m | m
        · exact fr c m
        · rw [List.mem_singleton.mp m]
          exact S4.free n84
    · rintro σ H4 ⟨o4, o5, o6, ps, rfl, S4, hl4, nd, fr, lp, hRs⟩
      rw [ln, List.take_length] at hRs ⊢
      have ul := pour_le ws rs
      refine ⟨_, rfl, _, rfl, _, rfl, _, rfl, a, _, rfl, SqL.of (S4 _ _ ha), fun ll nll => ?_⟩
      rw [cutV_tx_drop ws _ ul]
      have S5 := same_new (o := .lst (tx (ws.drop (pour ws rs).2))) nll
      have hll : (upd H4 ll (.lst (tx (ws.drop (pour ws rs).2)))) ll = some (.lst (tx (ws.drop (pour ws rs).2))) := upd_same
      have n1 : ll ≠ lf := fun z => by rw [z, hl4] at nll; cases nll
      have n2 : ll ∉ ps := fun z => by
        obtain ⟨g, hg⟩ := hRs.has z
        rw [nll] at hg
        cases hg
      generalize upd H4 ll (.lst (tx (ws.drop (pour ws rs).2))) = H5 at S5 hll
      refine ⟨by show 2 ≤ sizeLine; decide, fun t nt => ?_⟩
      have S6 := same_new (o := .tup [.ref lf, .ref ll]) nt
      refine q t lf ll ps _ (S4.trans (S5.trans S6)) ?_ ?_ upd_same (S6 _ _ (S5 _ _ hl4)) (S6 _ _ hll) (hRs.same (S5.trans S6))
      · rw [List.nodup_cons] at nd ⊢
        refine ⟨fun z => ?_, List.nodup_cons.mpr ⟨n2, nd.2⟩⟩
        rcases List.mem_cons.mp z with m | m
        · exact n1 m.symm
        · exact nd.1 m
      · intro c hc
        rcases List.mem_cons.mp hc with m | m
        · rw [m]; exact flf
        · rcases List.mem_cons.mp m with m | m
          · rw [m]; exact S4.free nll
          · exact fr c m
end
end KS
set_option Elab.async false
set_option linter.all false
set_option maxRecDepth 100000
set_option maxHeartbeats 1000000
namespace L2
open PySem
theorem call_isiK {X : Cx} {K : PySem.W.Frag} (hK : X.K = K) : CallR X (.builtin "isinstance") (fun xs H Q => ∃ x c t b, xs = [x, c] ∧ isCls c = true ∧ TyX K H x t ∧ PySem.W.kitOne K t (clsV c) = some b ∧ Q (.bl b) H) := by
  subst hK
  exact call_isi
theorem call_isiTK {X : Cx} {K : PySem.W.Frag} (hK : X.K = K) : CallR X (.builtin "isinstance") (fun xs H Q => ∃ x p cs t b, xs = [x, .ref p] ∧ SqT K H p cs ∧ cs.all isCls = true ∧ TyX K H x t ∧ PySem.W.kitAny K t (cs.map clsV) = some b ∧ Q (.bl b) H) := by
  subst hK
  exact call_isiT
theorem pe_appK {X : Cx} {K : PySem.W.Frag} {o e : Expr} {to : TE} {t : TA} {apos cpos : Pos} (hK : X.K = K) (ho : PE X o to) (ha : PA X [e] t)
    (hbase : attributeBase o "append" X.env (eval o X.env) = eval o X.env := by rfl)
    (hfew : ((backTo cpos (starEach [e] X.env)).all (fun x => !x.1) && (backToKw cpos (keywordEach [] X.env)).all (fun x => x.1.isSome)
      && decide ([e].length + ([] : List Keyword).length + (if ([] : List Keyword).isEmpty then 0 else 1) < 30)) = true := by rfl)
    (hline : (apos.endLine == cpos.line) = true := by rfl) (hs : starEach [e] X.env = (false, eval e X.env) :: starEach [] X.env := by rfl) (hplain : (backTo cpos (starEach [] X.env)).any (·.1) = false := by rfl) :
    PE X (.Call (.Attribute o "append" apos) [e] [] cpos) (tBM K "list" rAppend to t) := by
  subst hK
  exact pe_bm PySem.F.plainAttrs_list PySem.F.slot_list_append PySem.F.type_list_append mt_append ho ha hbase hfew hline hs hplain
end L2
namespace KS
open PySem L2 Lin PySem.W
open Tre (T)
def But (p : Addr) (H H' : Hp) : Prop := ∀ b u, b ≠ p → H b = some u → H' b = some u
theorem But.upd {p : Addr} {H H1 : Hp} {o : HO} (S : But p H H1) : But p H (upd H1 p o) := fun b u n e => by
  rw [upd_ne n]
  exact S b u n e
theorem But.new {p q : Addr} {H H1 : Hp} {o : HO} (S : But p H H1) (hn : H1 q = none) : But p H (L2.upd H1 q o) := fun b u n e => same_new hn _ _ (S b u n e)
theorem jw_str {H : Hp} {x : Str} {l : W} (e : x = txt l) (asc : ∀ c ∈ l, c < 128) (len : l.length ≤ 1000) (hb : isW l = false) : JW H (.str x) false := .inl ⟨l, by rw [e], asc, len, hb.symm⟩
theorem long_isW {n : Nat} (h : 13 ≤ n) : isW (List.replicate n 97) = false := by
  cases e : isW (List.replicate n 97) with
  | false => rfl
  | true =>
    have := (isW_iff.mp e).2.1
    rw [List.length_replicate] at this
    omega
theorem cutV_take (xs : List V) (k : Nat) (h : k ≤ xs.length) : cutV xs none (some (k : Int)) = xs.take k := by
  unfold cutV
  rw [HT.sIx_none, HT.sIx_nat, List.drop_zero, Nat.sub_zero, Nat.min_eq_left h]
theorem tx_take (ws : List W) (k : Nat) : (tx ws).take k = tx (ws.take k) := by unfold tx; rw [← List.map_take]
theorem tx_drop (ws : List W) (k : Nat) : (tx ws).drop k = tx (ws.drop k) := by unfold tx; rw [← List.map_drop]
def spBadW : Sp := fun vs H Q _ => ∃ (l p : Addr) (ws : List W) (a b c : Int), vs = [.ref l, .ref p] ∧ H l = some (.lst (tx ws)) ∧ (∀ u ∈ ws, okW u) ∧ ws.length ≤ 300 ∧ H p = some (deck a b c) ∧ 0 ≤ c ∧ c ≤ 1000 ∧
  ∀ (x : V) (H' : Hp) (a' c' : Int), But p H H' → H' p = some (deck a' b c') → 0 ≤ c' → c' ≤ c + 5 → (∀ H'', But p H' H'' → Bad H'' x) → Q x H'
section
variable {P : Program} {w : World} {K : PySem.W.Frag} {mg : Str → Option Value} {base : Heap}
theorem scBad : FnScope ["words", "deck", "some", "bad", "at"] ["words", "deck"] (defScope sBad) := ⟨rfl, rfl, rfl, by decide +kernel, rfl, by decide +kernel, by decide +kernel⟩
theorem ok_bad {f fT : Addr} {fd fdT : FuncData} (F : Fun K "_law_bad_words" "_law_bad_words" sBad f fd) (tl : mg "len" = none) (ttup : mg "tuple" = none) (Tk : Callee P w K mg base CX0 1 "_law_take" fT fdT ["deck", "many"] spTake) : FnOk P w K mg base CX0 2 f fd ["words", "deck"] spBadW := by
  refine F.ok scBad (fun vs H Q E h => ?_) (fun cdv A outer s H vs Q E hr h => ?_)
  · obtain ⟨l, p, ws, a, b, c, rfl, _⟩ := h
    rfl
  · obtain ⟨l, p, ws, a, b, c, rfl, hl, hw, hn, hp, c0, c1, q⟩ := h
    refine ⟨_, (pss_cons (ps_set (i := 2) scBad.nd rfl (Or.inl rfl) (pe_lst (pa_cons pe_str (pa_cons pe_str (pa_cons pe_str (pa_cons pe_str (pa_cons (pe_op op_repS pe_str (pe_op op_add pe_int (pe_call Tk.ok hr rfl Tk.bound Tk.kp Tk.bd .nil pass0 (pa_cons (pv 1) (pa_cons pe_int pa_nil))))) (pa_cons pe_str (pa_cons pe_str (pa_cons pe_non (pa_cons pe_bl (pa_cons pe_int pa_nil))))))))))))
      (pss_cons (ps_set (i := 3) scBad.nd rfl (Or.inl rfl) (pe_ix ix_list (pe_op op_cat (pv 2) (pe_lst (pa_cons (pe_lst (pa_cons pe_str pa_nil)) (pa_cons (pe_tup (pa_cons pe_str pa_nil)) (pa_cons pe_dnewK pa_nil))))) (pe_call Tk.ok hr rfl Tk.bound Tk.kp Tk.bd .nil pass0 (pa_cons (pv 1) (pa_cons pe_int pa_nil))) (fun _ _ => rfl)))
      (pss_cons (ps_set (i := 4) scBad.nd rfl (Or.inl rfl) (pe_call Tk.ok hr rfl Tk.bound Tk.kp Tk.bd .nil pass0 (pa_cons (pv 1) (pa_cons (pe_op op_add (pe_callB call_len_seq (by rfl) tl PySem.boot_len (pa_cons (pv 0) pa_nil)) pe_int) pa_nil))))
      (pss_cons (ps_if (pt_cmpR op_eq (pe_call Tk.ok hr rfl Tk.bound Tk.kp Tk.bd .nil pass0 (pa_cons (pv 1) (pa_cons pe_int pa_nil))) pe_int (nomark _))
      (pss_one (ps_ret (pe_ix ix_list (pe_lst (pa_cons (pe_callTy call_tuple_of rfl ttup PyProof.Rows.boot_tuple (pa_cons (pv 0) pa_nil)) (pa_cons pe_non (pa_cons pe_str (pa_cons pe_int (pa_cons pe_dnewK (pa_cons (pe_tup (pa_cons pe_str (pa_cons pe_str pa_nil))) pa_nil))))))) (pe_call Tk.ok hr rfl Tk.bound Tk.kp Tk.bd .nil pass0 (pa_cons (pv 1) (pa_cons pe_int pa_nil))) (fun _ _ => rfl))))
      pss_nil)
      (pss_one (ps_ret (pe_op op_cat (pe_op op_cat (pe_slice sl_list (pv 0) po_none (po_some (pv 4))) (pe_lst (pa_cons (pv 3) pa_nil))) (pe_slice sl_list (pv 0) (po_some (pv 4)) po_none)))))))), ?_⟩
    have lp : l ≠ p := fun z => by
      rw [z, hp] at hl
      have e : [V.int a, V.int b, V.int c] = tx ws := by
        injection hl with h
        injection h
      cases ws with
      | nil => cases e
      | cons u r =>
        have e : V.int a :: [V.int b, V.int c] = V.str (txt u) :: tx r := e
        injection e with e1
        cases e1
    have ea : ("a" : Str) = txt [97] := by decide +kernel
    refine ⟨_, rfl, p, a, b, c, 60, rfl, hp, by decide, by decide, c0, by omega, fun n a1 d1 n0 n1 z0 z1 => ?_⟩
    refine ⟨_, _, rfl, rfl, 97, 13 + n, congrArg V.str ea, rfl, by omega, by omega, ?_⟩
    have B1 : But p H (upd H p (deck a1 b d1)) := But.upd (fun b u n e => e)
    have hp1 : (upd H p (deck a1 b d1)) p = some (deck a1 b d1) := upd_same
    generalize upd H p (deck a1 b d1) = H1 at B1 hp1
    refine ⟨by show 10 ≤ sizeLine; decide, fun p1 np1 => ?_⟩
    have B2 := B1.new (o := .lst [.str "", .str "a b", .str " ", .str "abcdefghijklm", .str (txt (List.replicate (13 + n).toNat 97)), .str "\n", .str "a\t", .non, .bl true, .int 7]) np1
    have hp2 := same_new (o := .lst [.str "", .str "a b", .str " ", .str "abcdefghijklm", .str (txt (List.replicate (13 + n).toNat 97)), .str "\n", .str "a\t", .non, .bl true, .int 7]) np1 _ _ hp1
    have h2 : (upd H1 p1 (.lst [.str "", .str "a b", .str " ", .str "abcdefghijklm", .str (txt (List.replicate (13 + n).toNat 97)), .str "\n", .str "a\t", .non, .bl true, .int 7])) p1 = some (.lst [.str "", .str "a b", .str " ", .str "abcdefghijklm", .str (txt (List.replicate (13 + n).toNat 97)), .str "\n", .str "a\t", .non, .bl true, .int 7]) := upd_same
    generalize upd H1 p1 (.lst [.str "", .str "a b", .str " ", .str "abcdefghijklm", .str (txt (List.replicate (13 + n).toNat 97)), .str "\n", .str "a\t", .non, .bl true, .int 7]) = H2 at B2 hp2 h2
    refine ⟨_, rfl, by show 1 ≤ sizeLine; decide, fun q1 nq1 => ⟨by show 1 ≤ sizeLine; decide, fun q2 nq2 => fun q3 nq3 => ⟨by show 3 ≤ sizeLine; decide, fun q4 nq4 => ?_⟩⟩⟩
    have S1 := same_new (o := .lst [.str "a"]) nq1
    have S2 := same_new (o := .tup [.str "a"]) nq2
    have S3 := same_new (o := .dK []) nq3
    have S4 := same_new (o := .lst [.ref q1, .ref q2, .ref q3]) nq4
    have S34 := S3.trans S4
    have S24 := S2.trans S34
    have k1 := S24 _ _ (upd_same (H := H2) (a := q1) (o := .lst [.str "a"]))
    have k2 := S34 _ _ (upd_same (H := upd H2 q1 (.lst [.str "a"])) (a := q2) (o := .tup [.str "a"]))
    have k3 := S4 _ _ (upd_same (H := upd (upd H2 q1 (.lst [.str "a"])) q2 (.tup [.str "a"])) (a := q3) (o := .dK []))
    have B3 : But p H _ := (((B2.new (o := .lst [.str "a"]) nq1).new (o := .tup [.str "a"]) nq2).new (o := .dK []) nq3).new (o := .lst [.ref q1, .ref q2, .ref q3]) nq4
    have hp3 := (S1.trans S24) _ _ hp2
    have h3 := (S1.trans S24) _ _ h2
    have h4 : (upd (upd (upd (upd H2 q1 (.lst [.str "a"])) q2 (.tup [.str "a"])) q3 (.dK [])) q4 (.lst [.ref q1, .ref q2, .ref q3])) q4 = some (.lst [.ref q1, .ref q2, .ref q3]) := upd_same
    generalize upd (upd (upd (upd H2 q1 (.lst [.str "a"])) q2 (.tup [.str "a"])) q3 (.dK [])) q4 (.lst [.ref q1, .ref q2, .ref q3]) = H3 at k1 k2 k3 B3 hp3 h3 h4
    clear S1 S2 S3 S4 S34 S24 nq1 nq2 nq3 nq4
    refine ⟨p1, q4, _, _, rfl, rfl, h3, h4, by show 10 + 3 ≤ sizeLine; decide, fun q5 nq5 => ?_⟩
    have S5 := same_new (o := .lst ([.str "", .str "a b", .str " ", .str "abcdefghijklm", .str (txt (List.replicate (13 + n).toNat 97)), .str "\n", .str "a\t", .non, .bl true, .int 7] ++ [.ref q1, .ref q2, .ref q3])) nq5
    have B4 := B3.new (o := .lst ([.str "", .str "a b", .str " ", .str "abcdefghijklm", .str (txt (List.replicate (13 + n).toNat 97)), .str "\n", .str "a\t", .non, .bl true, .int 7] ++ [.ref q1, .ref q2, .ref q3])) nq5
    have hp4 := S5 _ _ hp3
    have h5 := upd_same (H := H3) (a := q5) (o := .lst ([.str "", .str "a b", .str " ", .str "abcdefghijklm", .str (txt (List.replicate (13 + n).toNat 97)), .str "\n", .str "a\t", .non, .bl true, .int 7] ++ [.ref q1, .ref q2, .ref q3]))
    have k1 := S5 _ _ k1
    have k2 := S5 _ _ k2
    have k3 := S5 _ _ k3
    generalize upd H3 q5 (.lst ([.str "", .str "a b", .str " ", .str "abcdefghijklm", .str (txt (List.replicate (13 + n).toNat 97)), .str "\n", .str "a\t", .non, .bl true, .int 7] ++ [.ref q1, .ref q2, .ref q3])) = H4 at S5 B4 hp4 h5 k1 k2 k3
    clear S5 h3 h4 nq5
    refine ⟨_, rfl, p, a1, b, d1, 13, rfl, hp4, by decide, by decide, z0, by omega, fun n2 a2 d2 m0 m1 y0 y1 => ?_⟩
    have n51 : q5 ≠ p := fun z => by rw [z, hp4] at h5; cases h5
    have n1p : q1 ≠ p := fun z => by rw [z, hp4] at k1; cases k1
    have n2p : q2 ≠ p := fun z => by rw [z, hp4] at k2; cases k2
    have n3p : q3 ≠ p := fun z => by rw [z, hp4] at k3; cases k3
    have B5 := B4.upd (o := deck a2 b d2)
    have hp5 : (upd H4 p (deck a2 b d2)) p = some (deck a2 b d2) := upd_same
    have h5 := (upd_ne (o := deck a2 b d2) n51).trans h5
    have k1 := (upd_ne (o := deck a2 b d2) n1p).trans k1
    have k2 := (upd_ne (o := deck a2 b d2) n2p).trans k2
    have k3 := (upd_ne (o := deck a2 b d2) n3p).trans k3
    generalize upd H4 p (deck a2 b d2) = H5 at B5 hp5 h5 k1 k2 k3
    obtain ⟨x, ex, jx⟩ : ∃ x : V, atI ([.str "", .str "a b", .str " ", .str "abcdefghijklm", .str (txt (List.replicate (13 + n).toNat 97)), .str "\n", .str "a\t", .non, .bl true, .int 7] ++ [.ref q1, .ref q2, .ref q3]) n2 = some x ∧ ((∀ H', JW H' x false) ∨ (x = .ref q1 ∨ x = .ref q2 ∨ x = .ref q3)) := by
      rcases (show n2 = 0 ∨ n2 = 1 ∨ n2 = 2 ∨ n2 = 3 ∨ n2 = 4 ∨ n2 = 5 ∨ n2 = 6 ∨ n2 = 7 ∨ n2 = 8 ∨ n2 = 9 ∨ n2 = 10 ∨ n2 = 11 ∨ n2 = 12 by omega) with e | e | e | e | e | e | e | e | e | e | e | e | e <;> subst e
      · exact ⟨_, rfl, .inl fun H' => jw_str (l := []) (by decide +kernel) (by decide) (by decide) (by decide)⟩
      · exact ⟨_, rfl, .inl fun H' => jw_str (l := [97, 32, 98]) (by decide +kernel) (by decide) (by decide) (by decide)⟩
      · exact ⟨_, rfl, .inl fun H' => jw_str (l := [32]) (by decide +kernel) (by decide) (by decide) (by decide)⟩
      · exact ⟨_, rfl, .inl fun H' => jw_str (l := [97, 98, 99, 100, 101, 102, 103, 104, 105, 106, 107, 108, 109]) (by decide +kernel) (by decide) (by decide) (by decide)⟩
      · exact ⟨_, rfl, .inl fun H' => jw_str (l := List.replicate (13 + n).toNat 97) rfl (fun c hc => by rw [List.eq_of_mem_replicate hc]; decide) (by rw [List.length_replicate]; omega) (long_isW (by omega))⟩
      · exact ⟨_, rfl, .inl fun H' => jw_str (l := [10]) (by decide +kernel) (by decide) (by decide) (by decide)⟩
      · exact ⟨_, rfl, .inl fun H' => jw_str (l := [97, 9]) (by decide +kernel) (by decide) (by decide) (by decide)⟩
      · exact ⟨_, rfl, .inl fun H' => .inr ⟨rfl, .non⟩⟩
      · exact ⟨_, rfl, .inl fun H' => .inr ⟨rfl, .bl _⟩⟩
      · exact ⟨_, rfl, .inl fun H' => .inr ⟨rfl, .int _⟩⟩
      · exact ⟨_, rfl, .inr (.inl rfl)⟩
      · exact ⟨_, rfl, .inr (.inr (.inl rfl))⟩
      · exact ⟨_, rfl, .inr (.inr (.inr rfl))⟩
    refine ⟨q5, _, _, x, rfl, rfl, SqL.of h5, ex, ?_⟩
    have hl5 := B5 _ _ lp hl
    have e0 : (((tx ws).length : Nat) : Int) + 1 = (ws.length : Int) + 1 := by rw [tx_len]
    refine ⟨_, rfl, _, rfl, _, _, rfl, .inl (SqL.of hl5), _, _, rfl, rfl, p, a2, b, d2, _, rfl, hp5, by omega, by rw [e0]; omega, y0, by omega, fun n3 a3 d3 t0 t1 x0 x1 => ?_⟩
    rw [e0] at t1
    obtain ⟨k, hk⟩ : ∃ k : Nat, n3 = (k : Int) := ⟨n3.toNat, by omega⟩
    subst hk
    have B6 := B5.upd (o := deck a3 b d3)
    have hp6 : (upd H5 p (deck a3 b d3)) p = some (deck a3 b d3) := upd_same
    have k1 := (upd_ne (o := deck a3 b d3) n1p).trans k1
    have k2 := (upd_ne (o := deck a3 b d3) n2p).trans k2
    have k3 := (upd_ne (o := deck a3 b d3) n3p).trans k3
    generalize upd H5 p (deck a3 b d3) = H6 at B6 hp6 k1 k2 k3
    refine ⟨_, rfl, p, a3, b, d3, 6, rfl, hp6, by decide, by decide, x0, by omega, fun n4 a4 d4 s0 s1 w0 w1 => ?_⟩
    have B7 := B6.upd (o := deck a4 b d4)
    have hp7 : (upd H6 p (deck a4 b d4)) p = some (deck a4 b d4) := upd_same
    have k1 := (upd_ne (o := deck a4 b d4) n1p).trans k1
    have k2 := (upd_ne (o := deck a4 b d4) n2p).trans k2
    have k3 := (upd_ne (o := deck a4 b d4) n3p).trans k3
    generalize upd H6 p (deck a4 b d4) = H7 at B7 hp7 k1 k2 k3
    have hl7 := B7 _ _ lp hl
    refine ⟨rfl, _, rfl, ite2 (fun c => ?_) (fun c => ?_)⟩
    · refine ⟨_, rfl, l, _, rfl, .inl ⟨SqL.of hl7, fun t nt => fun d nd => ⟨by show 2 ≤ sizeLine; decide, fun t2 nt2 => ⟨by show 6 ≤ sizeLine; decide, fun q6 nq6 => ?_⟩⟩⟩⟩
      have S1 := same_new (o := .tup (tx ws)) nt
      have S2 := same_new (o := .dK []) nd
      have S3 := same_new (o := .tup [.str "a", .str "b"]) nt2
      have S4 := same_new (o := .lst [.ref t, .non, .str "ab", .int 5, .ref d, .ref t2]) nq6
      have S34 := S3.trans S4
      have S24 := S2.trans S34
      have r1 := S24 _ _ (upd_same (H := H7) (a := t) (o := .tup (tx ws)))
      have r2 := S34 _ _ (upd_same (H := upd H7 t (.tup (tx ws))) (a := d) (o := .dK []))
      have r3 := S4 _ _ (upd_same (H := upd (upd H7 t (.tup (tx ws))) d (.dK [])) (a := t2) (o := .tup [.str "a", .str "b"]))
      have B8 : But p H _ := (((B7.new (o := .tup (tx ws)) nt).new (o := .dK []) nd).new (o := .tup [.str "a", .str "b"]) nt2).new (o := .lst [.ref t, .non, .str "ab", .int 5, .ref d, .ref t2]) nq6
      have hp8 := (S1.trans S24) _ _ hp7
      have h6 : (upd (upd (upd (upd H7 t (.tup (tx ws))) d (.dK [])) t2 (.tup [.str "a", .str "b"])) q6 (.lst [.ref t, .non, .str "ab", .int 5, .ref d, .ref t2])) q6 = some (.lst [.ref t, .non, .str "ab", .int 5, .ref d, .ref t2]) := upd_same
      generalize upd (upd (upd (upd H7 t (.tup (tx ws))) d (.dK [])) t2 (.tup [.str "a", .str "b"])) q6 (.lst [.ref t, .non, .str "ab", .int 5, .ref d, .ref t2]) = H8 at r1 r2 r3 B8 hp8 h6
      clear S1 S2 S3 S4 S34 S24 nt nd nt2 nq6
      refine ⟨_, rfl, p, a4, b, d4, 6, rfl, hp8, by decide, by decide, w0, by omega, fun n5 a5 d5 v0 v1 u0 u1 => ?_⟩
      have n6p : q6 ≠ p := fun z => by rw [z, hp8] at h6; cases h6
      have ntp : t ≠ p := fun z => by rw [z, hp8] at r1; cases r1
      have ndp : d ≠ p := fun z => by rw [z, hp8] at r2; cases r2
      have ntp2 : t2 ≠ p := fun z => by rw [z, hp8] at r3; cases r3
      have B9 := B8.upd (o := deck a5 b d5)
      have hp9 : (upd H8 p (deck a5 b d5)) p = some (deck a5 b d5) := upd_same
      have h6 := (upd_ne (o := deck a5 b d5) n6p).trans h6
      have r1 := (upd_ne (o := deck a5 b d5) ntp).trans r1
      have r2 := (upd_ne (o := deck a5 b d5) ndp).trans r2
      have r3 := (upd_ne (o := deck a5 b d5) ntp2).trans r3
      generalize upd H8 p (deck a5 b d5) = H9 at B9 hp9 h6 r1 r2 r3
      have fin : ∀ x : V, atI [.ref t, .non, .str "ab", .int 5, .ref d, .ref t2] n5 = some x → (∀ H'', But p H9 H'' → NoL H'' x) → _ := fun x e nl => (⟨q6, _, _, x, rfl, rfl, SqL.of h6, e, q x H9 a5 d5 B9 hp9 u0 (by omega) (fun H'' B => .inr (nl H'' B))⟩ : rIxL K (.ref q6) (.int n5) H9 Q)
      rcases (show n5 = 0 ∨ n5 = 1 ∨ n5 = 2 ∨ n5 = 3 ∨ n5 = 4 ∨ n5 = 5 by omega) with e | e | e | e | e | e <;> subst e
      · exact fin _ rfl fun H'' B => .tup (B _ _ ntp r1)
      · exact fin _ rfl fun H'' B => .non
      · exact fin _ rfl fun H'' B => .str _
      · exact fin _ rfl fun H'' B => .int _
      · exact fin _ rfl fun H'' B => .dK (B _ _ ndp r2)
      · exact fin _ rfl fun H'' B => .tup (B _ _ ntp2 r3)
    · have kl : k ≤ (tx ws).length := by rw [tx_len]; omega
      refine ⟨_, rfl, _, rfl, _, rfl, l, _, rfl, SqL.of hl7, fun g1 ng1 => ?_⟩
      rw [cutV_take _ k kl, tx_take]
      refine ⟨_, rfl, by show 1 ≤ sizeLine; decide, fun g2 ng2 => ?_⟩
      have S1 := same_new (o := .lst (tx (ws.take k))) ng1
      have S2 := same_new (o := .lst [x]) ng2
      have B8 : But p H _ := (B7.new (o := .lst (tx (ws.take k))) ng1).new (o := .lst [x]) ng2
      have S12 := S1.trans S2
      have r1 := S2 _ _ (upd_same (H := H7) (a := g1) (o := .lst (tx (ws.take k))))
      have r2 : (upd (upd H7 g1 (.lst (tx (ws.take k)))) g2 (.lst [x])) g2 = some (.lst [x]) := upd_same
      have hp8 := S12 _ _ hp7
      have hl8 := S12 _ _ hl7
      have k1 := S12 _ _ k1
      have k2 := S12 _ _ k2
      have k3 := S12 _ _ k3
      generalize upd (upd H7 g1 (.lst (tx (ws.take k)))) g2 (.lst [x]) = H8 at B8 r1 r2 hp8 hl8 k1 k2 k3
      clear S1 S2 S12 ng1 ng2
      refine ⟨g1, g2, _, _, rfl, rfl, r1, r2, ?_, fun g3 ng3 => ?_⟩
      · rw [tx_len, List.length_take]
        exact Nat.le_trans (show _ ≤ 1000 by simp; omega) (by decide)
      have S3 := same_new (o := .lst (tx (ws.take k) ++ [x])) ng3
      have B9 := B8.new (o := .lst (tx (ws.take k) ++ [x])) ng3
      have r3 : (upd H8 g3 (.lst (tx (ws.take k) ++ [x]))) g3 = some (.lst (tx (ws.take k) ++ [x])) := upd_same
      have hp9 := S3 _ _ hp8
      have hl9 := S3 _ _ hl8
      have k1 := S3 _ _ k1
      have k2 := S3 _ _ k2
      have k3 := S3 _ _ k3
      generalize upd H8 g3 (.lst (tx (ws.take k) ++ [x])) = H9 at S3 B9 r3 hp9 hl9 k1 k2 k3
      refine ⟨_, rfl, _, rfl, _, rfl, l, _, rfl, SqL.of hl9, fun g4 ng4 => ?_⟩
      rw [cutV_drop _ k kl, tx_drop]
      have S4 := same_new (o := .lst (tx (ws.drop k))) ng4
      have B10 := B9.new (o := .lst (tx (ws.drop k))) ng4
      have r4 : (upd H9 g4 (.lst (tx (ws.drop k)))) g4 = some (.lst (tx (ws.drop k))) := upd_same
      have r3 := S4 _ _ r3
      have hp10 := S4 _ _ hp9
      have k1 := S4 _ _ k1
      have k2 := S4 _ _ k2
      have k3 := S4 _ _ k3
      generalize upd H9 g4 (.lst (tx (ws.drop k))) = H10 at S4 B10 r4 r3 hp10 k1 k2 k3
      have ln : (tx (ws.take k) ++ [x]).length + (tx (ws.drop k)).length ≤ 1000 := by
        rw [List.length_append, tx_len, tx_len, List.length_take, List.length_drop, List.length_singleton]
        omega
      refine ⟨g3, g4, _, _, rfl, rfl, r3, r4, Nat.le_trans ln (by decide), fun g5 ng5 => ?_⟩
      have S5 := same_new (o := .lst (tx (ws.take k) ++ [x] ++ tx (ws.drop k))) ng5
      have ng5p : g5 ≠ p := fun z => by rw [z, hp10] at ng5; cases ng5
      refine q (.ref g5) _ a4 d4 (B10.new ng5) (S5 _ _ hp10) w0 (by omega) (fun H'' B => .inl ⟨g5, _, (List.replicate (ws.take k).length true ++ [false]) ++ List.replicate (ws.drop k).length true, rfl, B _ _ ng5p upd_same, ?_, by rw [List.length_append]; exact ln, by simp⟩)
      refine JWs.app (JWs.app (jws_good fun u hu => hw u (List.mem_of_mem_take hu)) (.cons ?_ .nil)) (jws_good fun u hu => hw u (List.mem_of_mem_drop hu))
      rcases jx with jx | jx | jx | jx
      · exact jx _
      · subst jx
        exact .inr ⟨rfl, .lst (B _ _ n1p (S5 _ _ k1))⟩
      · subst jx
        exact .inr ⟨rfl, .tup (B _ _ n2p (S5 _ _ k2))⟩
      · subst jx
        exact .inr ⟨rfl, .dK (B _ _ n3p (S5 _ _ k3))⟩
end
end KS
set_option Elab.async false
set_option linter.all false
set_option maxRecDepth 100000
set_option maxHeartbeats 1000000
namespace KS
open PySem L2 Lin PySem.W
open Tre (T)
theorem atd {p : Addr} {H H' : Hp} (B : But p H H') {us us' : List V} (hp : H p = some (.lst us)) (hp' : H' p = some (.lst us')) : (∀ {v : V} {t : T}, At H v t → At H' v t) := fun {v t} h => by
  refine At.rec (motive_1 := fun v t _ => At H' v t) (motive_2 := fun vs ts _ => AtL H' vs ts) .non .bl .int .str ?_ ?_ ?_ .nil ?_ h
  · intro a vs ts e _ ih
    exact .tup (B _ _ (fun z => by rw [z, hp] at e; cases e) e) ih
  · intro a vs e
    by_cases z : a = p
    · rw [z]
      exact .lst hp'
    · exact .lst (B _ _ z e)
  · intro a kvs e
    exact .dic (B _ _ (fun z => by rw [z, hp] at e; cases e) e)
  · intro v t vs ts _ _ a b
    exact .cons a b
theorem atdL {p : Addr} {H H' : Hp} (B : But p H H') {us us' : List V} (hp : H p = some (.lst us)) (hp' : H' p = some (.lst us')) : ∀ {vs : List V} {ts : List T}, AtL H vs ts → AtL H' vs ts
  | _, _, .nil => .nil
  | _, _, .cons a b => .cons (atd B hp hp' a) (atdL B hp hp' b)
theorem But.same {p : Addr} {H0 H H' : Hp} (S : Same H0 H) (B : But p H H') (hn : H0 p = none) : Same H0 H' := fun b u e => B b u (fun z => by rw [z, hn] at e; cases e) (S b u e)
theorem But.refl {p : Addr} {H : Hp} : But p H H := fun _ _ _ e => e
theorem But.trans {p : Addr} {H H1 H2 : Hp} (a : But p H H1) (b : But p H1 H2) : But p H H2 := fun c u n e => b c u n (a c u n e)
theorem But.of {p : Addr} {H H1 : Hp} (S : Same H H1) : But p H H1 := fun c u _ e => S c u e
def Mk (te : TE) (σ : St) (H0 : Hp) (t : T) : Prop := ∀ (H : Hp) (Q : VK), Same H0 H → (∀ v H', Same H H' → At H' v t → Q v H') → te σ H Q
def Mks (ta : TA) (σ : St) (H0 : Hp) (ts : List T) : Prop := ∀ (H : Hp) (Q : List V → Hp → Prop), Same H0 H → (∀ vs H', Same H H' → AtL H' vs ts → Q vs H') → ta σ H Q
section
variable {σ : St} {H0 : Hp} {te : TE} {ta : TA} {t : T} {ts : List T}
theorem mk_int {i : Int} : Mk (tC (.int i)) σ H0 (.int i) := fun H Q _ q => q _ H (Same.refl _) (.int i)
theorem mk_str {x : Str} : Mk (tC (.str x)) σ H0 (.str x) := fun H Q _ q => q _ H (Same.refl _) (.str x)
theorem mk_non : Mk (tC .non) σ H0 .non := fun H Q _ q => q _ H (Same.refl _) .non
theorem mk_bl {x : Bool} : Mk (tC (.bl x)) σ H0 (.bl x) := fun H Q _ q => q _ H (Same.refl _) (.bl x)
theorem mk_dic : Mk tDNewK σ H0 .dic := fun H Q _ q p np => q (.ref p) _ (same_new np) (.dic upd_same)
theorem mk_sub {i : Nat} {m j : Int} (e : σ[i]? = some (some (.int m))) : Mk (tOp (rI0 fun i j => V.int (i - j)) (tC (.int j)) (tVar i)) σ H0 (.int (j - m)) := fun H Q _ q => ⟨_, e, j, m, rfl, rfl, q _ H (Same.refl _) (.int _)⟩
theorem mk_tupOf {K : PySem.W.Frag} {i : Nat} {l : Addr} {xs : List V} (e : σ[i]? = some (some (.ref l))) (h : H0 l = some (.lst xs)) (hA : AtL H0 xs ts) :
    Mk (tCB (fun xs H Q => ∃ p ys, xs = [.ref p] ∧ ((SqL K H p ys ∧ ∀ l, H l = none → Q (.ref l) (upd H l (.tup ys))) ∨ (SqT K H p ys ∧ Q (.ref p) H))) (tCons (tVar i) tNil)) σ H0 (.tup ts) := fun H Q S q =>
  ⟨_, e, l, xs, rfl, .inl ⟨SqL.of (S _ _ h), fun p np => q (.ref p) _ (same_new np) (.tup upd_same ((hA.same S).same (same_new np)))⟩⟩
theorem mks_nil : Mks tNil σ H0 [] := fun H Q _ q => q [] H (Same.refl _) .nil
theorem mks_cons (h : Mk te σ H0 t) (r : Mks ta σ H0 ts) : Mks (tCons te ta) σ H0 (t :: ts) := fun H Q S q =>
  h H _ S fun v H1 S1 a1 => r H1 _ (S.trans S1) fun vs H2 S2 a2 => q (v :: vs) H2 (S1.trans S2) (.cons (a1.same S2) a2)
theorem mk_tup (h : Mks ta σ H0 ts) (hn : ts.length ≤ 100) : Mk (tTup ta) σ H0 (.tup ts) := fun H Q S q =>
  h H _ S fun vs H1 S1 a1 => ⟨Nat.le_trans (show vs.length ≤ 100 by rw [a1.len]; omega) (by decide), fun p np => q (.ref p) _ (S1.trans (same_new np)) (.tup upd_same (a1.same (same_new np)))⟩
theorem mk_lst (h : Mks ta σ H0 ts) (hn : ts.length ≤ 100) : Mk (tLst ta) σ H0 .lst := fun H Q S q =>
  h H _ S fun vs H1 S1 a1 => ⟨Nat.le_trans (show vs.length ≤ 100 by rw [a1.len]; omega) (by decide), fun p np => q (.ref p) _ (S1.trans (same_new np)) (.lst upd_same)⟩
end
theorem go_lst {D : Ends} {i : Nat} {u : TS} {σ : St} {H0 H : Hp} {ta : TA} {ts : List T} (t : Mks ta σ H0 ts) (S : Same H0 H) (hn : ts.length ≤ 100)
    (k : ∀ l us H', Same H H' → H' l = some (.lst us) → AtL H' us ts → u D (σ.set i (some (.ref l))) H') : tSeq (tAsg (tLst ta) (gName i)) u D σ H :=
  t H _ S fun vs H1 S1 a1 => ⟨Nat.le_trans (show vs.length ≤ 100 by rw [a1.len]; omega) (by decide), fun p np => k p vs _ (S1.trans (same_new np)) upd_same (a1.same (same_new np))⟩
theorem go_cat {D : Ends} {i : Nat} {u : TS} {σ : St} {H0 H : Hp} {ta : TA} {ts us0 : List T} {l0 : Addr} {vs0 : List V} (e : σ[i]? = some (some (.ref l0))) (h0 : H l0 = some (.lst vs0)) (a0 : AtL H vs0 us0) (n0 : us0.length ≤ 100) (t : Mks ta σ H0 ts) (S : Same H0 H) (hn : ts.length ≤ 100)
    (k : ∀ l us H', Same H H' → H' l = some (.lst us) → AtL H' us (us0 ++ ts) → u D (σ.set i (some (.ref l))) H') : tSeq (tAsg (tOp rCat (tVar i) (tLst ta)) (gName i)) u D σ H :=
  ⟨_, e, t H _ S fun vs H1 S1 a1 => ⟨Nat.le_trans (show vs.length ≤ 100 by rw [a1.len]; omega) (by decide), fun p np => ⟨l0, p, vs0, vs, rfl, rfl, same_new np _ _ (S1 _ _ h0), upd_same, Nat.le_trans (show vs0.length + vs.length ≤ 200 by rw [a0.len, a1.len]; omega) (by decide), fun r nr => by
    have S2 := (same_new (o := .lst vs) np).trans (same_new (o := .lst (vs0 ++ vs)) nr)
    exact k r (vs0 ++ vs) _ (S1.trans S2) upd_same ((a0.same (S1.trans S2)).app (a1.same S2))⟩⟩⟩
theorem go_at {D : Ends} {K : PySem.W.Frag} {te : TE} {σ : St} {H0 H : Hp} {ta : TA} {ts : List T} (t : Mks ta σ H0 ts) (S : Same H0 H) (hn : ts.length ≤ 100)
    (k : ∀ l us H', Same H H' → H' l = some (.lst us) → AtL H' us ts → te σ H' fun y H2 => rIxL K (.ref l) y H2 D.rt) : tRet (tOp (rIxL K) (tLst ta) te) D σ H :=
  t H _ S fun vs H1 S1 a1 => ⟨Nat.le_trans (show vs.length ≤ 100 by rw [a1.len]; omega) (by decide), fun p np => k p vs _ (S1.trans (same_new np)) upd_same (a1.same (same_new np))⟩
theorem AtL.take {H : Hp} : ∀ {vs : List V} {ts : List T} (k : Nat), AtL H vs ts → AtL H (vs.take k) (ts.take k)
  | _, _, 0, _ => .nil
  | _, _, _ + 1, .nil => .nil
  | _, _, k + 1, .cons a b => .cons a (AtL.take k b)
theorem AtL.drop {H : Hp} : ∀ {vs : List V} {ts : List T} (k : Nat), AtL H vs ts → AtL H (vs.drop k) (ts.drop k)
  | _, _, 0, h => h
  | _, _, _ + 1, .nil => .nil
  | _, _, k + 1, .cons a b => AtL.drop k b
def badTs (far : Int) : List T := [.tup [], .tup [.int 1], .tup [.int 1, .int 2, .int 3], .tup [.int 0, .int 1], .tup [.int 1, .int 0], .tup [.int (0 - far), .int 2], .tup [.int 2, .int (0 - far)], .tup [.bl true, .int 1], .tup [.int 1, .bl true], .tup [.int 1, .str "2"], .tup [.non, .int 1]]
def badTs2 : List T := [.lst, .non, .str "12", .int 7, .dic]
theorem badTs_bad {far : Int} (h : 1 ≤ far) : ∀ t ∈ badTs far ++ badTs2, roomB t = false ∧ small t := by
  intro t ht
  simp only [badTs, badTs2, List.mem_append, List.mem_cons, List.not_mem_nil, or_false] at ht
  rcases ht with (h | h | h | h | h | h | h | h | h | h | h) | (h | h | h | h | h) <;> subst h <;> refine ⟨?_, ?_⟩ <;> simp [roomB, lenB, small] <;> omega
def spBadR : Sp := fun vs H Q _ => ∃ (l p : Addr) (xs : List V) (rs : List Rm) (a b c : Int), vs = [.ref l, .ref p] ∧ H l = some (.lst xs) ∧ AtL H xs (rs.map rT) ∧ (∀ r ∈ rs, okR r) ∧ rs.length ≤ 100 ∧ l ≠ p ∧ H p = some (deck a b c) ∧ 0 ≤ c ∧ c ≤ 1000 ∧
  ∀ (x : V) (H' : Hp) (a' c' : Int), But p H H' → H' p = some (deck a' b c') → BadR H' x → Q x H'
section
variable {P : Program} {w : World} {K : PySem.W.Frag} {mg : Str → Option Value} {base : Heap}
theorem scBadR : FnScope ["some", "deck", "far", "bad", "at"] ["some", "deck"] (defScope sBadR) := ⟨rfl, rfl, rfl, by decide +kernel, rfl, by decide +kernel, by decide +kernel⟩
theorem ok_badR {f fT : Addr} {fd fdT : FuncData} (F : Fun K "_law_bad_rooms" "_law_bad_rooms" sBadR f fd) (tl : mg "len" = none) (ttup : mg "tuple" = none) (Tk : Callee P w K mg base CX0 1 "_law_take" fT fdT ["deck", "many"] spTake) : FnOk P w K mg base CX0 2 f fd ["some", "deck"] spBadR := by
  refine F.ok scBadR (fun vs H Q E h => ?_) (fun cdv A outer s H vs Q E hr h => ?_)
  · obtain ⟨l, p, xs, rs, a, b, c, rfl, _⟩ := h
    rfl
  · obtain ⟨l, p, xs, rs, a, b, c, rfl, hl, hA, ok, hn, lp, hp, c0, c1, q⟩ := h
    refine' ⟨_, pss_cons (u := ?uu) (ps_set (i := 2) scBadR.nd rfl (Or.inl rfl) (pe_op op_add pe_int (pe_call Tk.ok hr rfl Tk.bound Tk.kp Tk.bd .nil pass0 (pa_cN (pv 1) (pa_cB (pe_op op_pow pe_int pe_int) pa_nil))))) ?hb, ?_⟩
    case hb =>
      suffices z : Bx (PSs _ _ ?uu) by
        cases z with
        | mk h => exact h
      refine' b_cons ?b1 ?b2
      case b1 => exact b_setL (i := 3) scBadR.nd rfl (Or.inl rfl) (b_cT (b_tup b_nil) (b_cT (b_tup (b_cC ⟨pe_int⟩ b_nil)) (b_cT (b_tup (b_cC ⟨pe_int⟩ (b_cC ⟨pe_int⟩ (b_cC ⟨pe_int⟩ b_nil)))) (b_cT (b_tup (b_cC ⟨pe_int⟩ (b_cC ⟨pe_int⟩ b_nil))) (b_cT (b_tup (b_cC ⟨pe_int⟩ (b_cC ⟨pe_int⟩ b_nil))) (b_cT (b_tup (b_cB ⟨pe_op op_sub pe_int (pv 2)⟩ (b_cC ⟨pe_int⟩ b_nil))) (b_cT (b_tup (b_cC ⟨pe_int⟩ (b_cB ⟨pe_op op_sub pe_int (pv 2)⟩ b_nil))) (b_cT (b_tup (b_cC ⟨pe_bl⟩ (b_cC ⟨pe_int⟩ b_nil))) (b_cT (b_tup (b_cC ⟨pe_int⟩ (b_cC ⟨pe_bl⟩ b_nil))) (b_cT (b_tup (b_cC ⟨pe_int⟩ (b_cC ⟨pe_str⟩ b_nil))) (b_cT (b_tup (b_cC ⟨pe_non⟩ (b_cC ⟨pe_int⟩ b_nil))) b_nil))))))))))) (Or.inr rfl)
      case b2 => exact ⟨(pss_cons (ps_set (i := 3) scBadR.nd rfl (Or.inl rfl) (pe_op op_cat (pv 3) (pe_lst (pa_cL (pe_lst (pa_cC pe_int (pa_cC pe_int pa_nil))) (pa_cC pe_non (pa_cC pe_str (pa_cC pe_int (pa_cons pe_dnewK pa_nil))))))))
      (pss_cons (ps_set (i := 4) scBadR.nd rfl (Or.inl rfl) (pe_call Tk.ok hr rfl Tk.bound Tk.kp Tk.bd .nil pass0 (pa_cN (pv 1) (pa_cB (pe_op op_add (pe_callB call_len_seq (by rfl) tl PySem.boot_len (pa_cons (pv 0) pa_nil)) pe_int) pa_nil))))
      (pss_cons (ps_if (pt_cmpR op_eq (pe_call Tk.ok hr rfl Tk.bound Tk.kp Tk.bd .nil pass0 (pa_cN (pv 1) (pa_cC pe_int pa_nil))) pe_int (nomark _))
      (pss_one (ps_ret (pe_ix ix_list (pe_lst (pa_cons (pe_callTy call_tuple_of rfl ttup PyProof.Rows.boot_tuple (pa_cN (pv 0) pa_nil)) (pa_cC pe_non (pa_cons pe_dnewK (pa_cC pe_str (pa_cC pe_int (pa_cT (pe_tup (pa_cC pe_int (pa_cC pe_int pa_nil))) pa_nil))))))) (pe_call Tk.ok hr rfl Tk.bound Tk.kp Tk.bd .nil pass0 (pa_cN (pv 1) (pa_cC pe_int pa_nil))) (fun _ _ => rfl))))
      pss_nil)
      (pss_one (ps_ret (pe_op op_cat (pe_op op_cat (pe_slice sl_list (pv 0) po_none (po_some (pv 4))) (pe_lst (pa_cons (pe_ix ix_list (pv 3) (pe_call Tk.ok hr rfl Tk.bound Tk.kp Tk.bd .nil pass0 (pa_cN (pv 1) (pa_cC pe_int pa_nil))) (fun _ _ => rfl)) pa_nil))) (pe_slice sl_list (pv 0) (po_some (pv 4)) po_none)))))))⟩
    have lx := hA.len
    rw [List.length_map] at lx
    refine ⟨_, rfl, _, _, rfl, rfl, ⟨by decide, by decide, by decide⟩, p, a, b, c, _, rfl, hp, by decide, by decide, c0, by omega, fun n a1 d1 n0 n1 z0 z1 => ?_⟩
    refine ⟨_, _, rfl, rfl, ?_⟩
    have B1 : But p H (upd H p (deck a1 b d1)) := But.upd But.refl
    have hp1 : (upd H p (deck a1 b d1)) p = some (deck a1 b d1) := upd_same
    generalize upd H p (deck a1 b d1) = H1 at B1 hp1
    have hfar : 1 ≤ 1 + n := by omega
    dsimp only
    generalize 1 + n = far at hfar
    have m1 : Mks _ [some (.ref l), some (.ref p), some (.int far), none, none] H1 (badTs far) := mks_cons (mk_tup mks_nil (by decide)) (mks_cons (mk_tup (mks_cons mk_int mks_nil) (by decide)) (mks_cons (mk_tup (mks_cons mk_int (mks_cons mk_int (mks_cons mk_int mks_nil))) (by decide))
      (mks_cons (mk_tup (mks_cons mk_int (mks_cons mk_int mks_nil)) (by decide)) (mks_cons (mk_tup (mks_cons mk_int (mks_cons mk_int mks_nil)) (by decide)) (mks_cons (mk_tup (mks_cons (mk_sub (i := 2) (m := far) (j := 0) rfl) (mks_cons mk_int mks_nil)) (show 2 ≤ 100 by decide)) (mks_cons (mk_tup (mks_cons mk_int (mks_cons (mk_sub (i := 2) (m := far) (j := 0) rfl) mks_nil)) (show 2 ≤ 100 by decide))
      (mks_cons (mk_tup (mks_cons mk_bl (mks_cons mk_int mks_nil)) (by decide)) (mks_cons (mk_tup (mks_cons mk_int (mks_cons mk_bl mks_nil)) (by decide)) (mks_cons (mk_tup (mks_cons mk_int (mks_cons mk_str mks_nil)) (by decide)) (mks_cons (mk_tup (mks_cons mk_non (mks_cons mk_int mks_nil)) (by decide)) mks_nil))))))))))
    refine go_lst m1 (Same.refl _) (by simp [badTs]) fun p1 us H3 S3 h1 A3 => ?_
    have m2 : Mks _ [some (.ref l), some (.ref p), some (.int far), some (.ref p1), none] H3 badTs2 := mks_cons (mk_lst (ts := [.int 1, .int 2]) (mks_cons mk_int (mks_cons mk_int mks_nil)) (show 2 ≤ 100 by decide)) (mks_cons mk_non (mks_cons mk_str (mks_cons mk_int (mks_cons mk_dic mks_nil))))
    refine go_cat (i := 3) rfl h1 A3 (by simp [badTs]) m2 (Same.refl _) (by decide) fun p3 us3 H6 S6' h3 A6 => ?_
    have S6 := S3.trans S6'
    have l3 : us3.length = 16 := by rw [A6.len]; rfl
    clear A3 h1 S3 S6'
    have n3p : p3 ≠ p := fun z => by
      have := S6 _ _ hp1
      rw [← z, h3] at this
      injection this with this
      injection this with this
      rw [this] at l3
      exact absurd l3 (by simp)
    have B6 := B1.trans (But.of S6)
    have hp6 := S6 _ _ hp1
    have hl6 := B6 _ _ lp hl
    refine ⟨_, rfl, _, rfl, _, _, rfl, .inl (SqL.of hl6), _, _, rfl, rfl, p, a1, b, d1, _, rfl, hp6, by omega, by omega, z0, by omega, fun n2 a2 d2 m0 m1 y0 y1 => ?_⟩
    have B7 := B6.upd (o := deck a2 b d2)
    have hp7 : (upd H6 p (deck a2 b d2)) p = some (deck a2 b d2) := upd_same
    have hl7 := (upd_ne (o := deck a2 b d2) lp).trans hl6
    have h7 := (upd_ne (o := deck a2 b d2) n3p).trans h3
    have A7 : AtL (upd H6 p (deck a2 b d2)) us3 (badTs far ++ badTs2) := atdL (But.upd But.refl) hp6 hp7 A6
    have R7 : AtL (upd H6 p (deck a2 b d2)) xs (rs.map rT) := atdL B7 hp hp7 hA
    generalize upd H6 p (deck a2 b d2) = H7 at B7 hp7 hl7 h7 A7 R7
    obtain ⟨k, ek⟩ : ∃ k : Nat, n2 = k := ⟨n2.toNat, by omega⟩
    subst ek
    have kl : k ≤ xs.length := by omega
    refine ⟨_, rfl, p, a2, b, d2, 6, rfl, hp7, by decide, by decide, y0, by omega, fun n3 a3 d3 t0 t1 x0 x1 => ?_⟩
    have B8 := B7.upd (o := deck a3 b d3)
    have hp8 : (upd H7 p (deck a3 b d3)) p = some (deck a3 b d3) := upd_same
    have hl8 := (upd_ne (o := deck a3 b d3) lp).trans hl7
    have h8 := (upd_ne (o := deck a3 b d3) n3p).trans h7
    have A8 : AtL (upd H7 p (deck a3 b d3)) us3 (badTs far ++ badTs2) := atdL (But.upd But.refl) hp7 hp8 A7
    have R8 : AtL (upd H7 p (deck a3 b d3)) xs (rs.map rT) := atdL (But.upd But.refl) hp7 hp8 R7
    generalize upd H7 p (deck a3 b d3) = H8 at B8 hp8 hl8 h8 A8 R8
    refine ⟨rfl, _, rfl, ?_⟩
    refine ite2 (fun _ => ?_) (fun _ => ?_)
    · have m3 : Mks _ [some (.ref l), some (.ref p), some (.int far), some (.ref p3), some (.int (k : Int))] H8 [.tup (rs.map rT), .non, .dic, .str "", .int 3, .tup [.int 1, .int 1]] := mks_cons (mk_tupOf (K := K) (i := 0) rfl hl8 R8) (mks_cons mk_non (mks_cons mk_dic (mks_cons mk_str (mks_cons mk_int (mks_cons (mk_tup (mks_cons mk_int (mks_cons mk_int mks_nil)) (by decide)) mks_nil)))))
      refine go_at m3 (Same.refl _) (show 6 ≤ 100 by decide) fun q1 us H10 S10 h10 A10 => ?_
      have l9 := A10.len
      have B10 := B8.trans (But.of S10)
      have hp10 := S10 _ _ hp8
      have n1p : q1 ≠ p := fun z => by
        rw [z, hp10] at h10
        injection h10 with h10
        injection h10 with h10
        rw [← h10] at l9
        exact absurd l9 (by simp)
      refine ⟨_, rfl, p, a3, b, d3, 6, rfl, hp10, by decide, by decide, x0, by omega, fun n4 a4 d4 s0 s1 w0 w1 => ?_⟩
      have B11 := B10.upd (o := deck a4 b d4)
      have hp11 : (upd H10 p (deck a4 b d4)) p = some (deck a4 b d4) := upd_same
      have h11 := (upd_ne (o := deck a4 b d4) n1p).trans h10
      have A11 : AtL (upd H10 p (deck a4 b d4)) us _ := atdL (But.upd But.refl) hp10 hp11 A10
      generalize upd H10 p (deck a4 b d4) = H11 at B11 hp11 h11 A11
      obtain ⟨j, ej⟩ : ∃ j : Nat, n4 = j := ⟨n4.toNat, by omega⟩
      subst ej
      have jl : j < us.length := by rw [l9]; show j < 6; omega
      obtain ⟨t, et, ht⟩ := A11.get (List.getElem?_eq_getElem jl)
      refine ⟨q1, _, _, us[j], rfl, rfl, SqL.of h11, atI_nat (List.getElem?_eq_getElem jl), q _ H11 a4 d4 B11 hp11 (.inr ⟨t, ht, ?_⟩)⟩
      have mt := List.mem_of_getElem? et
      simp only [List.mem_cons, List.not_mem_nil, or_false] at mt
      rcases mt with h | h | h | h | h | h <;> subst h <;> rfl
    · refine ⟨_, rfl, _, rfl, _, rfl, l, _, rfl, SqL.of hl8, fun g1 ng1 => ?_⟩
      rw [cutV_takeI _ _ (by omega), Int.toNat_natCast]
      have S9 := same_new (o := .lst (xs.take k)) ng1
      have r9 : (upd H8 g1 (.lst (xs.take k))) g1 = some (.lst (xs.take k)) := upd_same
      generalize upd H8 g1 (.lst (xs.take k)) = H9 at S9 r9
      have hp9 := S9 _ _ hp8
      have g1p : g1 ≠ p := fun z => by rw [z] at ng1; rw [ng1] at hp8; cases hp8
      refine ⟨_, rfl, _, rfl, p, a3, b, d3, 16, rfl, hp9, by decide, by decide, x0, by omega, fun n4 a4 d4 s0 s1 w0 w1 => ?_⟩
      have B10 := (B8.trans (But.of S9)).upd (o := deck a4 b d4)
      have hp10 : (upd H9 p (deck a4 b d4)) p = some (deck a4 b d4) := upd_same
      have h10 := (upd_ne (o := deck a4 b d4) n3p).trans (S9 _ _ h8)
      have r10 := (upd_ne (o := deck a4 b d4) g1p).trans r9
      have hl10 := (upd_ne (o := deck a4 b d4) lp).trans (S9 _ _ hl8)
      have A10 : AtL (upd H9 p (deck a4 b d4)) us3 (badTs far ++ badTs2) := atdL (But.upd But.refl) hp9 hp10 (A8.same S9)
      have R10 : AtL (upd H9 p (deck a4 b d4)) xs (rs.map rT) := atdL (But.upd But.refl) hp9 hp10 (R8.same S9)
      generalize upd H9 p (deck a4 b d4) = H10 at B10 hp10 h10 r10 hl10 A10 R10
      obtain ⟨j, ej⟩ : ∃ j : Nat, n4 = j := ⟨n4.toNat, by omega⟩
      subst ej
      have jl : j < us3.length := by omega
      obtain ⟨x, hx⟩ : ∃ x, us3[j]? = some x := ⟨_, List.getElem?_eq_getElem jl⟩
      obtain ⟨t, et, ht⟩ := A10.get hx
      have bt := badTs_bad hfar t (List.mem_of_getElem? et)
      refine ⟨p3, _, _, x, rfl, rfl, SqL.of h10, atI_nat hx, by show 1 ≤ sizeLine; decide, fun g2 ng2 => ?_⟩
      have S11 := same_new (o := .lst [x]) ng2
      have r11 : (upd H10 g2 (.lst [x])) g2 = some (.lst [x]) := upd_same
      generalize upd H10 g2 (.lst [x]) = H11 at S11 r11
      refine ⟨g1, g2, _, _, rfl, rfl, S11 _ _ r10, r11, Nat.le_trans (show (xs.take k).length + 1 ≤ 1000 by rw [List.length_take]; omega) (by decide), fun g3 ng3 => ?_⟩
      have S12 := same_new (o := .lst (xs.take k ++ [x])) ng3
      have r12 : (upd H11 g3 (.lst (xs.take k ++ [x]))) g3 = some (.lst (xs.take k ++ [x])) := upd_same
      generalize upd H11 g3 (.lst (xs.take k ++ [x])) = H12 at S12 r12
      refine ⟨_, rfl, _, rfl, _, rfl, l, _, rfl, SqL.of (S12 _ _ (S11 _ _ hl10)), fun g4 ng4 => ?_⟩
      rw [cutV_drop _ k kl]
      have S13 := same_new (o := .lst (xs.drop k)) ng4
      have r13 : (upd H12 g4 (.lst (xs.drop k))) g4 = some (.lst (xs.drop k)) := upd_same
      generalize upd H12 g4 (.lst (xs.drop k)) = H13 at S13 r13
      have ln : (xs.take k ++ [x]).length + (xs.drop k).length ≤ 1000 := by
        rw [List.length_append, List.length_take, List.length_drop, List.length_singleton]
        omega
      refine ⟨g3, g4, _, _, rfl, rfl, S13 _ _ r12, r13, Nat.le_trans ln (by decide), fun g5 ng5 => ?_⟩
      have S14 := S11.trans (S12.trans (S13.trans (same_new (o := .lst (xs.take k ++ [x] ++ xs.drop k)) ng5)))
      refine q (.ref g5) _ a4 d4 (B10.trans (But.of S14)) (S14 _ _ hp10) (.inl ⟨g5, _, (rs.map rT).take k ++ [t] ++ (rs.map rT).drop k, rfl, upd_same, (((R10.take k).app (.cons ht .nil)).app (R10.drop k)).same S14, ?_, by rw [List.length_append]; exact ln, ?_⟩)
      · intro u hu
        rcases List.mem_append.mp hu with m | m
        · rcases List.mem_append.mp m with m | m
          · obtain ⟨r, _, rfl⟩ := List.mem_map.mp (List.mem_of_mem_take m)
            exact rT_small r
          · rw [List.mem_singleton.mp m]
            exact bt.2
        · obtain ⟨r, _, rfl⟩ := List.mem_map.mp (List.mem_of_mem_drop m)
          exact rT_small r
      · rw [List.all_append, List.all_append]
        show ((_ && (roomB t && true)) && _) = false
        rw [bt.1, Bool.false_and, Bool.and_false, Bool.false_and]
end
end KS
set_option Elab.async false
set_option linter.all false
set_option maxRecDepth 100000
set_option maxHeartbeats 1000000
namespace KS
open PySem L2 Lin PySem.W
open Tre (T)
structure OneKind (K : PySem.W.Frag) (C0 C1 C2 C3 C4 C5 C6 C7 C8 C9 C : Addr) (b : Bool) : Prop where
  cE : ExcCls K C
  up : mroIn K C (.ref C0) = some true
  kT : kitOne K (.ref C) (.ref C6) = some b
  kN : kitOne K (.ref C) (.ref C5) = some (!b)
  kv : kitOne K (.ref C) (.type "ValueError") = some true
  kA : kitAny K (.ref C) [.ref C9, .ref C1, .ref C2, .ref C3, .ref C7, .ref C8, .ref C4] = some false
structure Kinds (K : PySem.W.Frag) (mg : Str → Option Value) (C0 C1 C2 C3 C4 C5 C6 C7 C8 C9 : Addr) : Prop where
  m0 : mg "PartError" = some (.ref C0)
  m1 : mg "NoPage" = some (.ref C1)
  m2 : mg "NoPicture" = some (.ref C2)
  m3 : mg "NoPlace" = some (.ref C3)
  m4 : mg "NoTree" = some (.ref C4)
  m5 : mg "NoNeeds" = some (.ref C5)
  m6 : mg "NoTexts" = some (.ref C6)
  m7 : mg "NoRoom" = some (.ref C7)
  m8 : mg "NoRow" = some (.ref C8)
  m9 : mg "NoNumber" = some (.ref C9)
  mv : mg "ValueError" = none
  cP : ExcCls K C0
  k6 : OneKind K C0 C1 C2 C3 C4 C5 C6 C7 C8 C9 C6 true
  k5 : OneKind K C0 C1 C2 C3 C4 C5 C6 C7 C8 C9 C5 false
def spRefused : Sp := fun vs H Q _ => ∃ (x y : V) (b : Bool), vs = [x, y] ∧ ((b = true ∧ Bad H x) ∨ (b = false ∧ (∃ (a : Addr) (ws : List W), x = .ref a ∧ H a = some (.lst (tx ws)) ∧ (∀ u ∈ ws, okW u) ∧ ws.length ≤ 1000) ∧ BadR H y)) ∧
  ∀ (l : Addr) (H' : Hp), Same H H' → H' l = some (.lst [.bl b, .bl (!b), .bl true, .bl false]) → Q (.ref l) H'
theorem boot_VE : bootBuiltins "ValueError" = some (.type "ValueError") := by decide +kernel
section
variable {P : Program} {w : World} {K : PySem.W.Frag} {mg : Str → Option Value} {base : Heap}
theorem scRef : FnScope ["words", "some", "kinds", "e"] ["words", "some"] (defScope sRef) := ⟨rfl, rfl, rfl, by decide +kernel, rfl, by decide +kernel, by decide +kernel⟩
theorem ok_refused {f fB C0 C1 C2 C3 C4 C5 C6 C7 C8 C9 : Addr} {fd fdB : FuncData} (F : Fun K "_law_refused" "_law_refused" sRef f fd) (ti : mg "isinstance" = none) (Z : Kinds K mg C0 C1 C2 C3 C4 C5 C6 C7 C8 C9)
    (Po : Callee P w K mg base (CXE P w) 5 "poured" fB fdB ["words", "rooms"] (spPour C6 C5)) : FnOk P w K mg base CX0 6 f fd ["words", "some"] spRefused := by
  refine F.ok scRef (fun vs H Q E h => ?_) (fun cdv A outer s H vs Q E hr h => ?_)
  · obtain ⟨x, y, b, rfl, _⟩ := h
    rfl
  · obtain ⟨x, y, b, rfl, hb, q⟩ := h
    refine ⟨_, pss_cons (ps_set (i := 2) scRef.nd rfl (Or.inl rfl) (pe_lst pa_nil))
      (pss_cons (ps_try (i := 3) rfl rfl scRef.nd rfl rfl rfl Z.m0 Z.cP
        (fun pl Ec => pss_one (ps_expr (pe_callX Po.ok hr rfl Po.bound Po.kp Po.bd .nil rfl (pa_cons (pv 0) (pa_cons (pv 1) pa_nil)))))
        (fun ee => pss_cons (ps_set (i := 2) scRef.nd rfl (Or.inl rfl) (pe_lst (pa_cons (pe_callB (call_isiK (K := K) rfl) (by rfl) ti PyProof.Rows.boot_isinstance (pa_cons (pv 3) (pa_cons (pe_cls rfl Z.m6) pa_nil))) (pa_cons (pe_callB (call_isiK (K := K) rfl) (by rfl) ti PyProof.Rows.boot_isinstance (pa_cons (pv 3) (pa_cons (pe_cls rfl Z.m5) pa_nil))) (pa_cons (pe_callB (call_isiK (K := K) rfl) (by rfl) ti PyProof.Rows.boot_isinstance (pa_cons (pv 3) (pa_cons (pe_tyn rfl Z.mv boot_VE) pa_nil))) pa_nil)))))
          (pss_one (ps_expr (pe_appK (K := K) rfl (pv 2) (pa_cons (pe_callB (call_isiTK (K := K) rfl) (by rfl) ti PyProof.Rows.boot_isinstance (pa_cons (pv 3) (pa_cons (pe_tup (pa_cons (pe_cls rfl Z.m9) (pa_cons (pe_cls rfl Z.m1) (pa_cons (pe_cls rfl Z.m2) (pa_cons (pe_cls rfl Z.m3) (pa_cons (pe_cls rfl Z.m7) (pa_cons (pe_cls rfl Z.m8) (pa_cons (pe_cls rfl Z.m4) pa_nil)))))))) pa_nil))) pa_nil))))))
      (pss_one (ps_ret (pv 2)))), ?_⟩
    refine seq_lst ⟨by show 0 ≤ sizeLine; decide, fun l0 n0 => ?_⟩
    have S0 := same_new (o := .lst []) n0
    generalize upd H l0 (.lst []) = H0 at S0
    rcases hb with ⟨rfl, bad⟩ | ⟨rfl, ⟨a, ws, rfl, ha, hw, hn⟩, bad⟩
    · refine ⟨_, rfl, _, rfl, x, y, rfl, .inr ⟨bad.same S0, fun H1 S1 => ⟨C6, rfl, Z.k6.up, fun ea hea => ?_⟩⟩⟩
      have SE := same_new (o := .ext (ExcIs ea C6)) hea
      have hE : (upd H1 ea (.ext (ExcIs ea C6))) ea = some (.ext (ExcIs ea C6)) := upd_same
      generalize upd H1 ea (.ext (ExcIs ea C6)) = H2 at SE hE ⊢
      refine seq_lst ?_
      refine ⟨_, rfl, _, _, _, _, rfl, rfl, .exc hE Z.k6.cE, Z.k6.kT, ?_⟩
      refine ⟨_, rfl, _, _, _, _, rfl, rfl, .exc hE Z.k6.cE, Z.k6.kN, ?_⟩
      refine ⟨_, rfl, _, _, _, _, rfl, rfl, .exc hE Z.k6.cE, Z.k6.kv, by show 3 ≤ sizeLine; decide, fun lk nk => ?_⟩
      have Sk := same_new (o := .lst [.bl true, .bl (!true), .bl true]) nk
      have hK : (upd H2 lk (.lst [.bl true, .bl (!true), .bl true])) lk = some (.lst [.bl true, .bl (!true), .bl true]) := upd_same
      have hE3 := Sk _ _ hE
      generalize hH3 : upd H2 lk (.lst [.bl true, .bl (!true), .bl true]) = H3 at Sk hK hE3 ⊢
      refine ⟨_, rfl, .inl ⟨rfl, _, SqL.of hK⟩, _, rfl, by show 7 ≤ sizeLine; decide, fun t1 nt1 => ?_⟩
      have St := same_new (o := .tup [.ref C9, .ref C1, .ref C2, .ref C3, .ref C7, .ref C8, .ref C4]) nt1
      refine ⟨_, _, _, _, _, rfl, SqT.of upd_same, rfl, .exc (St _ _ hE3) Z.k6.cE, Z.k6.kA, lk, _, _, rfl, rfl, St _ _ hK, by show 3 < sizeLine; decide, ?_⟩
      have S4 : Same H (upd (upd H3 t1 (.tup [.ref C9, .ref C1, .ref C2, .ref C3, .ref C7, .ref C8, .ref C4])) lk (.lst ([.bl true, .bl (!true), .bl true] ++ [.bl false]))) := same_upd ((S0.trans S1).trans (SE.trans (Sk.trans St))) ((S0.trans S1).trans SE |>.free nk)
      exact ⟨_, rfl, q lk _ S4 upd_same⟩
    · refine ⟨_, rfl, _, rfl, .ref a, y, rfl, .inl ⟨a, ws, rfl, S0 _ _ ha, hw, hn, .inr ⟨bad.same S0, fun H1 S1 => ⟨C5, rfl, Z.k5.up, fun ea hea => ?_⟩⟩⟩⟩
      have SE := same_new (o := .ext (ExcIs ea C5)) hea
      have hE : (upd H1 ea (.ext (ExcIs ea C5))) ea = some (.ext (ExcIs ea C5)) := upd_same
      generalize upd H1 ea (.ext (ExcIs ea C5)) = H2 at SE hE ⊢
      refine seq_lst ?_
      refine ⟨_, rfl, _, _, _, _, rfl, rfl, .exc hE Z.k5.cE, Z.k5.kT, ?_⟩
      refine ⟨_, rfl, _, _, _, _, rfl, rfl, .exc hE Z.k5.cE, Z.k5.kN, ?_⟩
      refine ⟨_, rfl, _, _, _, _, rfl, rfl, .exc hE Z.k5.cE, Z.k5.kv, by show 3 ≤ sizeLine; decide, fun lk nk => ?_⟩
      have Sk := same_new (o := .lst [.bl false, .bl (!false), .bl true]) nk
      have hK : (upd H2 lk (.lst [.bl false, .bl (!false), .bl true])) lk = some (.lst [.bl false, .bl (!false), .bl true]) := upd_same
      have hE3 := Sk _ _ hE
      generalize hH3 : upd H2 lk (.lst [.bl false, .bl (!false), .bl true]) = H3 at Sk hK hE3 ⊢
      refine ⟨_, rfl, .inl ⟨rfl, _, SqL.of hK⟩, _, rfl, by show 7 ≤ sizeLine; decide, fun t1 nt1 => ?_⟩
      have St := same_new (o := .tup [.ref C9, .ref C1, .ref C2, .ref C3, .ref C7, .ref C8, .ref C4]) nt1
      refine ⟨_, _, _, _, _, rfl, SqT.of upd_same, rfl, .exc (St _ _ hE3) Z.k5.cE, Z.k5.kA, lk, _, _, rfl, rfl, St _ _ hK, by show 3 < sizeLine; decide, ?_⟩
      have S4 : Same H (upd (upd H3 t1 (.tup [.ref C9, .ref C1, .ref C2, .ref C3, .ref C7, .ref C8, .ref C4])) lk (.lst ([.bl false, .bl (!false), .bl true] ++ [.bl false]))) := same_upd ((S0.trans S1).trans (SE.trans (Sk.trans St))) ((S0.trans S1).trans SE |>.free nk)
      exact ⟨_, rfl, q lk _ S4 upd_same⟩
end
end KS
set_option Elab.async false
set_option linter.all false
set_option maxRecDepth 100000
set_option maxHeartbeats 1000000
namespace KS
open PySem L2 Lin PySem.W
open Tre (T)
theorem glue_app : ∀ (a b : List W), a ≠ [] → b ≠ [] → glue (a ++ b) = glue a ++ 32 :: glue b
  | [], _, h, _ => absurd rfl h
  | [x], [], _, h => absurd rfl h
  | [x], y :: r, _, _ => rfl
  | x :: y :: r, b, _, h => by
    have ih := glue_app (y :: r) b (by simp) h
    show x ++ 32 :: glue ((y :: r) ++ b) = (x ++ 32 :: glue (y :: r)) ++ 32 :: glue b
    rw [ih]
    simp
theorem glue_lines : ∀ (gs : List (List W)) (r : List W), (∀ g ∈ gs, g ≠ []) → glue (gs.map glue ++ r) = glue (gs.flatten ++ r)
  | [], r, _ => rfl
  | g :: gs, r, h => by
    have hg := h g List.mem_cons_self
    have ih := glue_lines gs r fun z hz => h z (List.mem_cons_of_mem _ hz)
    rw [List.map_cons, List.cons_append, List.flatten_cons, List.append_assoc]
    by_cases e : gs.map glue ++ r = []
    · have e2 : gs.flatten ++ r = [] := by
        rcases List.append_eq_nil_iff.mp e with ⟨a, b⟩
        rw [List.map_eq_nil_iff.mp a, b]
        rfl
      rw [e, e2, List.append_nil]
      rfl
    · have e2 : gs.flatten ++ r ≠ [] := fun z => by
        rcases List.append_eq_nil_iff.mp z with ⟨a, b⟩
        apply e
        rw [b, List.append_nil]
        cases gs with
        | nil => rfl
        | cons c t =>
          rw [List.flatten_cons] at a
          exact absurd (List.append_eq_nil_iff.mp a).1 (h c (List.mem_cons_of_mem _ List.mem_cons_self))
      rw [show glue g :: (gs.map glue ++ r) = [glue g] ++ (gs.map glue ++ r) from rfl, glue_app [glue g] _ (by simp) e, glue_app g _ hg e2, ih]
      rfl
theorem fold_flat (ws : List W) : ∀ (rs : List Rm) (p : List (List (List W)) × Nat), p.1.flatten.flatten = ws.take p.2 → (rs.foldl (step ws) p).1.flatten.flatten = ws.take (rs.foldl (step ws) p).2
  | [], p, h => h
  | r :: rs, p, h => fold_flat ws rs _ (by
    show (p.1 ++ [lns r.1 r.2.toNat (ws.drop p.2)]).flatten.flatten = ws.take (p.2 + used r.1 r.2.toNat (ws.drop p.2))
    rw [List.flatten_append, List.flatten_append, h, List.take_add]
    congr 1
    show (lns r.1 r.2.toNat (ws.drop p.2) ++ []).flatten = _
    rw [List.append_nil, lns_flat])
theorem pour_flat (ws : List W) (rs : List Rm) : (pour ws rs).1.flatten.flatten = ws.take (pour ws rs).2 := fold_flat ws rs _ rfl
theorem fold_ne (ws : List W) : ∀ (rs : List Rm) (p : List (List (List W)) × Nat), (∀ gs ∈ p.1, ∀ g ∈ gs, g ≠ []) → ∀ gs ∈ (rs.foldl (step ws) p).1, ∀ g ∈ gs, g ≠ []
  | [], p, h => h
  | r :: rs, p, h => fold_ne ws rs _ (by
    intro gs hgs
    rcases List.mem_append.mp hgs with m | m
    · exact h gs m
    · rw [List.mem_singleton.mp m]
      exact lns_ne)
theorem pour_ne (ws : List W) (rs : List Rm) : ∀ gs ∈ (pour ws rs).1, ∀ g ∈ gs, g ≠ [] := fold_ne ws rs _ (fun gs h => (List.not_mem_nil h).elim)
theorem fold_len (ws : List W) : ∀ (rs : List Rm) (p : List (List (List W)) × Nat), (rs.foldl (step ws) p).1.length = p.1.length + rs.length
  | [], p => rfl
  | r :: rs, p => by
    show (rs.foldl (step ws) (step ws p r)).1.length = _
    rw [fold_len ws rs]
    show (p.1 ++ [_]).length + rs.length = _
    rw [List.length_append, List.length_cons, List.length_cons, List.length_nil]
    omega
theorem pour_len (ws : List W) (rs : List Rm) : (pour ws rs).1.length = rs.length := by
  unfold pour
  rw [fold_len]
  exact Nat.zero_add _
theorem lns_stop {wide : Int} {k n : Nat} {ws : List W} (h : k ≤ n) (z : k = n ∨ fit wide (-1) (ws.drop (used wide k ws)) = 0) : lns wide n ws = lns wide k ws := by
  rcases z with z | z
  · rw [z]
  · obtain ⟨j, rfl⟩ : ∃ j, n = k + j := ⟨n - k, by omega⟩
    rw [lns_add]
    have : lns wide j (ws.drop (used wide k ws)) = [] := by
      cases j with
      | zero => rfl
      | succ j => unfold lns; rw [if_pos z]
    rw [this, List.append_nil]
theorem lns_next {wide : Int} {k : Nat} {ws : List W} (z : fit wide (-1) (ws.drop (used wide k ws)) ≠ 0) : lns wide (k + 1) ws = lns wide k ws ++ [(ws.drop (used wide k ws)).take (fit wide (-1) (ws.drop (used wide k ws)))] := by
  rw [lns_add]
  congr 1
  unfold lns
  rw [if_neg z]
  rfl
theorem used_next {wide : Int} {k : Nat} {ws : List W} : used wide (k + 1) ws = used wide k ws + fit wide (-1) (ws.drop (used wide k ws)) := by
  rw [used_add, used_succ, used_zero]
  rfl
theorem fit_cons {wide u : Int} {ws : List W} {j : Nat} {v : W} (h : ws[j]? = some v) (c : u + 1 + v.length ≤ wide) : fit wide u (ws.drop j) = fit wide (u + 1 + v.length) (ws.drop (j + 1)) + 1 := by
  obtain ⟨hj, e⟩ := List.getElem?_eq_some_iff.mp h
  rw [List.drop_eq_getElem_cons hj, e]
  conv => lhs; unfold fit
  rw [if_pos c]
theorem fit_stop {wide u : Int} {ws : List W} {j : Nat} (c : ∀ v, ws[j]? = some v → ¬ u + 1 + (v.length : Int) ≤ wide) : fit wide u (ws.drop j) = 0 := by
  by_cases hj : j < ws.length
  · rw [List.drop_eq_getElem_cons hj]
    unfold fit
    rw [if_neg (c _ (List.getElem?_eq_getElem hj))]
  · rw [List.drop_of_length_le (by omega)]
    rfl
def Told (H : Hp) (t : Addr) (gs : List (List (List W))) (left : List W) : Prop := ∃ (lf ll : Addr) (ps : List Addr), H t = some (.tup [.ref lf, .ref ll]) ∧ H lf = some (.lst (refs ps)) ∧ H ll = some (.lst (tx left)) ∧ Rs H ps gs
theorem Told.same {H H' : Hp} (S : Same H H') {t : Addr} {gs : List (List (List W))} {left : List W} : Told H t gs left → Told H' t gs left
  | ⟨lf, ll, ps, h1, h2, h3, h4⟩ => ⟨lf, ll, ps, S _ _ h1, S _ _ h2, S _ _ h3, h4.same S⟩
theorem eqR_true {K : PySem.W.Frag} {H : Hp} {n : Nat} {x y : V} {b : Bool} (h : EqR K H n x y b) (e : b = true) : EqR K H n x y true := e ▸ h
theorem eq_tx {K : PySem.W.Frag} {H : Hp} {n : Nat} {a b : Addr} {ws : List W} (ha : SqL K H a (tx ws)) (hb : SqL K H b (tx ws)) : EqR K H (n + 1) (.ref a) (.ref b) true := by
  have fl : ∀ j, j < (tx ws).length → flatV ((tx ws).getD j .non) = true := fun j hj => by
    rw [tx_len] at hj
    rw [List.getD_eq_getElem?_getD, tx_get (List.getElem?_eq_getElem hj)]
    rfl
  refine eqR_true (EqR.lsts (n := n) (e := fun j => eqV ((tx ws).getD j .non) ((tx ws).getD j .non)) ha hb rfl fun j hj => .flat (fl j hj) (fl j hj)) ?_
  rw [List.all_eq_true]
  intro j hj
  exact eqV_refl (fl j (List.mem_range.mp hj))
theorem Rs.len {H : Hp} : ∀ {ps : List Addr} {gs : List (List (List W))}, Rs H ps gs → ps.length = gs.length
  | _, _, .nil => rfl
  | _, _, .cons _ t => by rw [List.length_cons, List.length_cons, Rs.len t]
theorem Rs.get {H : Hp} : ∀ {ps : List Addr} {gs : List (List (List W))} {i : Nat} {p : Addr}, Rs H ps gs → ps[i]? = some p → ∃ g, gs[i]? = some g ∧ H p = some (.lst (tx (g.map glue)))
  | _, _, _, _, .nil, e => by simp at e
  | _, _, 0, _, .cons h _, e => by simp at e; subst e; exact ⟨_, rfl, h⟩
  | _, _, i + 1, p, .cons _ t, e => by
    obtain ⟨g, h1, h2⟩ := Rs.get (i := i) (p := p) t (by simpa using e)
    exact ⟨g, by simpa using h1, h2⟩
theorem refs_getD {ps : List Addr} {j : Nat} (h : j < ps.length) : (refs ps).getD j .non = .ref ps[j] := by
  unfold refs
  rw [List.getD_eq_getElem?_getD, List.getElem?_map, List.getElem?_eq_getElem h]
  rfl
theorem refs_len (ps : List Addr) : (refs ps).length = ps.length := List.length_map _
theorem eq_rows {K : PySem.W.Frag} {H : Hp} {n : Nat} {a b : Addr} {ps qs : List Addr} {gs : List (List (List W))} (ha : H a = some (.lst (refs ps))) (hb : H b = some (.lst (refs qs))) (h1 : Rs H ps gs) (h2 : Rs H qs gs) : EqR K H (n + 2) (.ref a) (.ref b) true := by
  have l1 := h1.len
  have l2 := h2.len
  refine eqR_true (EqR.lsts (n := n + 1) (e := fun _ => true) (SqL.of ha) (SqL.of hb) (by rw [refs_len, refs_len]; omega) fun j hj => ?_) (by simp)
  rw [refs_len] at hj
  have hj2 : j < qs.length := by omega
  rw [refs_getD hj, refs_getD hj2]
  obtain ⟨g, e1, g1⟩ := h1.get (List.getElem?_eq_getElem hj)
  obtain ⟨g', e2, g2⟩ := h2.get (List.getElem?_eq_getElem hj2)
  rw [e1] at e2
  cases e2
  exact eq_tx (SqL.of g1) (SqL.of g2)
theorem eq_told {K : PySem.W.Frag} {H : Hp} {a b : Addr} {gs : List (List (List W))} {left : List W} : Told H a gs left → Told H b gs left → EqR K H 3 (.ref a) (.ref b) true
  | ⟨lf, ll, ps, h1, h2, h3, h4⟩, ⟨mf, ml, qs, k1, k2, k3, k4⟩ => by
    refine eqR_true (EqR.tups (n := 2) (e := fun _ => true) (SqT.of h1) (SqT.of k1) fun j hj hj2 => ?_) rfl
    match j, hj with
    | 0, _ => exact eq_rows h2 k2 h4 k4
    | 1, _ => exact eq_tx (SqL.of h3) (SqL.of k3)
    | j + 2, hj => exact absurd hj (by simp)
def spRooms (K : PySem.W.Frag) : Sp := fun vs H Q _ => ∃ (a : Addr) (ns : List Int), vs = [.ref a] ∧ SqL K H a (ns.map V.int) ∧ ∀ (l : Addr) (xs : List V) (rs : List Rm) (H' : Hp), Same H H' → H' l = some (.lst xs) → AtL H' xs (rs.map rT) → (∀ r ∈ rs, okR r) → 1 ≤ rs.length → rs.length ≤ 8 → Q (.ref l) H'
def spDue : Sp := fun vs H Q _ => ∃ (a b : Addr) (ws : List W) (xs : List V) (rs : List Rm), vs = [.ref a, .ref b] ∧ H a = some (.lst (tx ws)) ∧ (∀ u ∈ ws, okW u) ∧ ws.length ≤ 1000 ∧ H b = some (.lst xs) ∧ AtL H xs (rs.map rT) ∧ (∀ r ∈ rs, okR r) ∧ rs.length ≤ 1000 ∧
  ∀ (t : Addr) (H' : Hp), Same H H' → Told H' t (pour ws rs).1 (ws.drop (pour ws rs).2) → Q (.ref t) H'
def spTold : Sp := fun vs H Q _ => ∃ (x y l : Addr) (ws : List W) (rs : List Rm), vs = [.ref x, .ref y, .ref l] ∧ H l = some (.lst (tx ws)) ∧ (∀ u ∈ ws, okW u) ∧ ws.length ≤ 1000 ∧ rs.length ≤ 100 ∧ Told H x (pour ws rs).1 (ws.drop (pour ws rs).2) ∧ Told H y (pour ws rs).1 (ws.drop (pour ws rs).2) ∧ ∀ H', Same H H' → Q (.bl true) H'
section
variable {P : Program} {w : World} {K : PySem.W.Frag} {mg : Str → Option Value} {base : Heap}
theorem scRooms : FnScope ["script", "found", "deck", "k"] ["script"] (defScope sRooms) := ⟨rfl, rfl, rfl, by decide +kernel, rfl, by decide +kernel, by decide +kernel⟩
theorem ok_rooms {f fC fT : Addr} {fd fdC fdT : FuncData} (F : Fun K "_law_rooms" "_law_rooms" sRooms f fd) (tr : mg "range" = none) (Ce : Callee P w K mg base CX0 1 "_law_cell_at" fC fdC ["script", "k"] (spCellAt K)) (Tk : Callee P w K mg base CX0 1 "_law_take" fT fdT ["deck", "many"] spTake) : FnOk P w K mg base CX0 2 f fd ["script"] (spRooms K) := by
  refine F.ok scRooms (fun vs H Q E h => ?_) (fun cdv A outer s H vs Q E hr h => ?_)
  · obtain ⟨a, ns, rfl, _⟩ := h
    rfl
  · obtain ⟨a, ns, rfl, hS, q⟩ := h
    refine ⟨_, (pss_cons (ps_set (i := 1) scRooms.nd rfl (Or.inl rfl) (pe_lst pa_nil))
      (pss_cons (ps_set (i := 2) scRooms.nd rfl (Or.inl rfl) (pe_lst (pa_cons (pe_call Ce.ok (hr.mono (show 1 ≤ 1 by decide)) rfl Ce.bound Ce.kp Ce.bd .nil pass0 (pa_cons (pv 0) (pa_cons pe_int pa_nil))) (pa_cons (pe_op op_mod (pe_call Ce.ok (hr.mono (show 1 ≤ 1 by decide)) rfl Ce.bound Ce.kp Ce.bd .nil pass0 (pa_cons (pv 0) (pa_cons pe_int pa_nil))) pe_int) (pa_cons pe_int pa_nil)))))
      (pss_cons (ps_for PassesOwn.never rfl (pi_range1 rfl tr (pa_cons (pe_op op_add pe_int (pe_call Tk.ok hr rfl Tk.bound Tk.kp Tk.bd .nil pass0 (pa_cons (pv 2) (pa_cons pe_int pa_nil)))) pa_nil)) (pg_name (i := 3) scRooms.nd rfl (Or.inl rfl))
      (pss_one (ps_expr (pe_bm PySem.F.plainAttrs_list PySem.F.slot_list_append PySem.F.type_list_append mt_append (pv 1) (pa_cons (pe_tup (pa_cons (pe_op op_add pe_int (pe_call Tk.ok hr rfl Tk.bound Tk.kp Tk.bd .nil pass0 (pa_cons (pv 2) (pa_cons pe_int pa_nil)))) (pa_cons (pe_op op_add pe_int (pe_call Tk.ok hr rfl Tk.bound Tk.kp Tk.bd .nil pass0 (pa_cons (pv 2) (pa_cons pe_int pa_nil)))) pa_nil))) pa_nil)))))
      (pss_one (ps_ret (pv 1)))))), ?_⟩
    refine ⟨by show 0 ≤ sizeLine; decide, fun l nl => ?_⟩
    have S1 := same_new (o := .lst []) nl
    have hl : (upd H l (.lst [])) l = some (.lst []) := upd_same
    generalize upd H l (.lst []) = H1 at S1 hl
    refine ⟨_, rfl, a, ns, 1, rfl, S1.seq hS, by decide, fun c1 => ?_⟩
    refine ⟨_, rfl, a, ns, 0, rfl, S1.seq hS, by decide, fun c0 => ?_⟩
    refine ⟨_, _, rfl, rfl, (by show (0 : Int) < 2; decide), by show 3 ≤ sizeLine; decide, fun p np => ?_⟩
    have S2 := S1.trans (same_new (o := .lst [.int c1, .int (c0 % 2), .int 0]) np)
    have hl2 := same_new (o := .lst [.int c1, .int (c0 % 2), .int 0]) np _ _ hl
    have hp : (upd H1 p (.lst [.int c1, .int (c0 % 2), .int 0])) p = some (deck c1 (c0 % 2) 0) := upd_same
    have fp : H p = none := S1.free np
    have lp : l ≠ p := ne_of_none hl np
    generalize upd H1 p (.lst [.int c1, .int (c0 % 2), .int 0]) = H2 at S2 hl2 hp
    refine ⟨_, rfl, p, c1, c0 % 2, 0, 8, rfl, hp, by decide, by decide, by decide, by decide, fun n a1 d1 n0 n8 z0 z1 => ?_⟩
    have S3 : Same H (upd H2 p (deck a1 (c0 % 2) d1)) := same_upd S2 fp
    have hl3 := (upd_ne (o := deck a1 (c0 % 2) d1) lp).trans hl2
    have hp3 : (upd H2 p (deck a1 (c0 % 2) d1)) p = some (deck a1 (c0 % 2) d1) := upd_same
    generalize upd H2 p (deck a1 (c0 % 2) d1) = H3 at S3 hl3 hp3
    obtain ⟨N, hN⟩ : ∃ N : Nat, (1 : Int) + n = N := ⟨(1 + n).toNat, by omega⟩
    refine ⟨_, _, rfl, rfl, _, rfl, by omega, by omega, ?_⟩
    rw [hN]
    refine for_range (lo := 0) (n := N) (fun i σ H4 => ∃ (o : Option V) (xs : List V) (rs : List Rm) (a2 d2 : Int), σ = [some (.ref a), some (.ref l), some (.ref p), o] ∧ Same H H4 ∧ H4 l = some (.lst xs) ∧ H4 p = some (deck a2 (c0 % 2) d2) ∧ 0 ≤ d2 ∧ d2 ≤ 1 + 2 * i ∧ AtL H4 xs (rs.map rT) ∧ (∀ r ∈ rs, okR r) ∧ rs.length = i)
      ⟨none, [], [], a1, d1, rfl, S3, hl3, hp3, z0, by omega, .nil, fun r hr => (List.not_mem_nil hr).elim, rfl⟩ ?_ ?_
    · rintro i σ H4 hi ⟨o, xs, rs, a2, d2, rfl, S4, hl4, hp4, y0, y1, hA, ok, lr⟩
      have lx := hA.len
      rw [List.length_map] at lx
      refine run_gname ?_
      refine ⟨_, rfl, .inl ⟨rfl, _, SqL.of hl4⟩, ?_⟩
      refine ⟨_, rfl, p, a2, c0 % 2, d2, 20, rfl, hp4, by decide, by decide, y0, by omega, fun n1 a3 d3 n10 n11 x0 x1 => ⟨_, _, rfl, rfl, ?_⟩⟩
      have S5 : Same H (upd H4 p (deck a3 (c0 % 2) d3)) := same_upd S4 fp
      have hl5 := (upd_ne (o := deck a3 (c0 % 2) d3) lp).trans hl4
      have hp5 : (upd H4 p (deck a3 (c0 % 2) d3)) p = some (deck a3 (c0 % 2) d3) := upd_same
      have A5 : AtL (upd H4 p (deck a3 (c0 % 2) d3)) xs (rs.map rT) := atdL (But.upd But.refl) hp4 hp5 hA
      generalize upd H4 p (deck a3 (c0 % 2) d3) = H5 at S5 hl5 hp5 A5
      refine ⟨_, rfl, p, a3, c0 % 2, d3, 6, rfl, hp5, by decide, by decide, x0, by omega, fun n2 a4 d4 n20 n21 w0 w1 => ⟨_, _, rfl, rfl, ?_⟩⟩
      have S6 : Same H (upd H5 p (deck a4 (c0 % 2) d4)) := same_upd S5 fp
      have hl6 := (upd_ne (o := deck a4 (c0 % 2) d4) lp).trans hl5
      have hp6 : (upd H5 p (deck a4 (c0 % 2) d4)) p = some (deck a4 (c0 % 2) d4) := upd_same
      have A6 : AtL (upd H5 p (deck a4 (c0 % 2) d4)) xs (rs.map rT) := atdL (But.upd But.refl) hp5 hp6 A5
      generalize upd H5 p (deck a4 (c0 % 2) d4) = H6 at S6 hl6 hp6 A6
      refine ⟨by show 2 ≤ sizeLine; decide, fun t nt => ?_⟩
      have S7 := S6.trans (same_new (o := .tup [.int (1 + n1), .int (1 + n2)]) nt)
      have ht : (upd H6 t (.tup [.int (1 + n1), .int (1 + n2)])) t = some (.tup [.int (1 + n1), .int (1 + n2)]) := upd_same
      have hl7 := same_new (o := .tup [.int (1 + n1), .int (1 + n2)]) nt _ _ hl6
      have hp7 := same_new (o := .tup [.int (1 + n1), .int (1 + n2)]) nt _ _ hp6
      have A7 := A6.same (same_new (o := .tup [.int (1 + n1), .int (1 + n2)]) nt)
      generalize upd H6 t (.tup [.int (1 + n1), .int (1 + n2)]) = H7 at S7 ht hl7 hp7 A7
      refine ⟨l, _, _, rfl, rfl, hl7, Nat.lt_of_le_of_lt (show xs.length ≤ 1000 by omega) (by decide), ?_⟩
      have A8 : AtL (upd H7 l (.lst (xs ++ [.ref t]))) (xs ++ [.ref t]) ((rs ++ [(1 + n1, 1 + n2)]).map rT) := by
        rw [List.map_append]
        refine atdL (But.upd But.refl) hl7 upd_same (A7.app (.cons (.tup ht (.cons (.int _) (.cons (.int _) .nil))) .nil))
      refine ⟨_, xs ++ [.ref t], rs ++ [(1 + n1, 1 + n2)], a4, d4, rfl, same_upd S7 nl, upd_same, (upd_ne (Ne.symm lp)).trans hp7, w0, by omega, A8, fun r hr => ?_, by rw [List.length_append, lr]; rfl⟩
      rcases List.mem_append.mp hr with m | m
      · exact ok r m
      · rw [List.mem_singleton.mp m]
        exact ⟨by show 1 ≤ 1 + n1; omega, by show 1 ≤ 1 + n2; omega⟩
    · rintro σ H4 ⟨o, xs, rs, a2, d2, rfl, S4, hl4, hp4, y0, y1, hA, ok, lr⟩
      exact ⟨_, rfl, q l xs rs H4 S4 hl4 hA ok (by omega) (by omega)⟩
end
end KS
set_option Elab.async false
set_option linter.all false
set_option maxRecDepth 100000
set_option maxHeartbeats 1000000
namespace KS
open PySem L2 Lin PySem.W
open Tre (T)
theorem sum_le {B : Nat} : ∀ {ls : List W}, (∀ l ∈ ls, l.length ≤ B) → (ls.map List.length).sum ≤ B * ls.length
  | [], _ => Nat.le_refl _
  | a :: r, h => by
    have := sum_le (B := B) (ls := r) fun l hl => h l (List.mem_cons_of_mem _ hl)
    have := h a List.mem_cons_self
    rw [List.map_cons, List.sum_cons, List.length_cons, Nat.mul_add]
    omega
theorem cutV_mid (ws : List W) (i j : Nat) (h : i + j ≤ ws.length) : cutV (tx ws) (some (i : Int)) (some ((i + j : Nat) : Int)) = tx ((ws.drop i).take j) := by
  unfold cutV
  rw [HT.sIx_nat, HT.sIx_nat, tx_len, Nat.min_eq_left (by omega), Nat.min_eq_left (by omega), tx_dropN, tx_takeN, show i + j - i = j by omega]
section
variable {P : Program} {w : World} {K : PySem.W.Frag} {mg : Str → Option Value} {base : Heap}
theorem scDue : FnScope ["words", "some", "at", "told", "wide", "high", "room", "behind", "used"] ["words", "some"] (defScope sDue) := ⟨rfl, rfl, rfl, by decide +kernel, rfl, by decide +kernel, by decide +kernel⟩
theorem ok_due {f : Addr} {fd : FuncData} (F : Fun K "_law_due" "_law_due" sDue f fd) (tl : mg "len" = none) : FnOk P w K mg base CX0 1 f fd ["words", "some"] spDue := by
  refine F.ok scDue (fun vs H Q E h => ?_) (fun cdv A outer s H vs Q E hr h => ?_)
  · obtain ⟨a, b, ws, xs, rs, rfl, _⟩ := h
    rfl
  · obtain ⟨a, b, ws, xs, rs, rfl, ha, hw, hn, hb, hA, ok, hrn, q⟩ := h
    refine ⟨_, (pss_cons (ps_set (i := 2) scDue.nd rfl (Or.inl rfl) pe_int)
      (pss_cons (ps_set (i := 3) scDue.nd rfl (Or.inl rfl) (pe_lst pa_nil))
      (pss_cons (ps_for PassesOwn.never rfl (pi_list (pv 1)) (pg_tup rfl (pgs_cons (pg_name (i := 4) scDue.nd rfl (Or.inl rfl)) (pgs_cons (pg_name (i := 5) scDue.nd rfl (Or.inl rfl)) pgs_nil)))
      (pss_cons (ps_set (i := 6) scDue.nd rfl (Or.inl rfl) (pe_lst pa_nil))
        (pss_cons (ps_while PassesOwn.never (PW.pt (pw_and (pt_cmpR op_lt (pv 2) (pe_callB call_len_seq (by rfl) tl PySem.boot_len (pa_cons (pv 0) pa_nil)) (nomark _)) (pw_and (pt_cmpR op_le (pe_callB call_len_str (by rfl) tl PySem.boot_len (pa_cons (pe_ix ix_list (pv 0) (pv 2) (fun _ _ => rfl)) pa_nil)) (pv 4) (nomark _)) (pw_and1 (pt_cmpR op_lt (pe_callB call_len_seq (by rfl) tl PySem.boot_len (pa_cons (pv 6) pa_nil)) (pv 5) (nomark _))))))
        (pss_cons (ps_set (i := 7) scDue.nd rfl (Or.inl rfl) (pv 2))
          (pss_cons (ps_set (i := 8) scDue.nd rfl (Or.inl rfl) (pe_un un_neg pe_int))
          (pss_cons (ps_while PassesOwn.never (PW.pt (pw_and (pt_cmpR op_lt (pv 7) (pe_callB call_len_seq (by rfl) tl PySem.boot_len (pa_cons (pv 0) pa_nil)) (nomark _)) (pw_and1 (pt_cmpR op_le (pe_op op_add (pe_op op_add (pv 8) pe_int) (pe_callB call_len_str (by rfl) tl PySem.boot_len (pa_cons (pe_ix ix_list (pv 0) (pv 7) (fun _ _ => rfl)) pa_nil))) (pv 4) (nomark _)))))
          (pss_cons (ps_set (i := 8) scDue.nd rfl (Or.inl rfl) (pe_op op_add (pe_op op_add (pv 8) pe_int) (pe_callB call_len_str (by rfl) tl PySem.boot_len (pa_cons (pe_ix ix_list (pv 0) (pv 7) (fun _ _ => rfl)) pa_nil))))
            (pss_one (ps_set (i := 7) scDue.nd rfl (Or.inl rfl) (pe_op op_add (pv 7) pe_int)))))
          (pss_cons (ps_expr (pe_bm PySem.F.plainAttrs_list PySem.F.slot_list_append PySem.F.type_list_append mt_append (pv 6) (pa_cons (pe_bm PySem.F.plainAttrs_str PySem.F.slot_str_join PySem.F.type_str_join mt_joinB pe_str (by exact (pa_cons (pe_slice sl_list (pv 0) (po_some (pv 2)) (po_some (pv 7))) pa_nil))) pa_nil)))
          (pss_one (ps_set (i := 2) scDue.nd rfl (Or.inl rfl) (pv 7))))))))
        (pss_one (ps_expr (pe_bm PySem.F.plainAttrs_list PySem.F.slot_list_append PySem.F.type_list_append mt_append (pv 3) (pa_cons (pv 6) pa_nil)))))))
      (pss_one (ps_ret (pe_tup (pa_cons (pv 3) (pa_cons (pe_slice sl_list (pv 0) (po_some (pv 2)) po_none) pa_nil)))))))), ?_⟩
    have lx := hA.len
    rw [List.length_map] at lx
    refine seq_asg evl_c ?_
    refine seq_lst ⟨by show 0 ≤ sizeLine; decide, fun lt nlt => ?_⟩
    have S1 := same_new (o := .lst []) nlt
    have hlt : (upd H lt (.lst [])) lt = some (.lst []) := upd_same
    generalize upd H lt (.lst []) = H1 at S1 hlt
    refine ⟨_, rfl, b, rfl, ⟨_, SqL.of (S1 _ _ hb)⟩, for_list (K := K) (a := b) (xs := xs) (fun i σ H4 => ∃ (o4 o5 o6 o7 o8 : Option V) (ps : List Addr), σ = [some (.ref a), some (.ref b), some (.int ((pour ws (rs.take i)).2 : Nat)), some (.ref lt), o4, o5, o6, o7, o8] ∧ Same H H4 ∧
        H4 lt = some (.lst (refs ps)) ∧ lt ∉ ps ∧ ps.length = i ∧ Rs H4 ps (pour ws (rs.take i)).1) ⟨none, none, none, none, none, [], rfl, S1, hlt, List.not_mem_nil, rfl, .nil⟩
      (fun i σ H4 _ ⟨_, _, _, _, _, _, _, S, _⟩ => SqL.of (S _ _ hb)) ?_ ?_⟩
    · rintro i x σ H4 hx ⟨o4, o5, o6, o7, o8, ps, rfl, S4, hl4, nd, lp, hRs⟩
      obtain ⟨r, p, er, rfl, hp⟩ := hA.room hx
      obtain ⟨hil, ev⟩ := List.getElem?_eq_some_iff.mp er
      have okr := ok r (List.mem_of_getElem? er)
      have ul := pour_le ws (rs.take i)
      have es : pour ws (rs.take (i + 1)) = step ws (pour ws (rs.take i)) r := by rw [← List.take_append_getElem hil, ev, pour_snoc]
      rw [es]
      generalize pour ws (rs.take i) = st at ul hRs
      obtain ⟨acc, u⟩ := st
      have ul : u ≤ ws.length := ul
      refine ⟨p, _, rfl, SqT.of (S4 _ _ hp), rfl, _, _, rfl, _, _, rfl, rfl, ?_⟩
      dsimp only
      refine seq_lst ⟨by show 0 ≤ sizeLine; decide, fun lr nlr => ?_⟩
      have S5 := same_new (o := .lst []) nlr
      have hlr : (upd H4 lr (.lst [])) lr = some (.lst (tx ((lns r.1 0 (ws.drop u)).map glue))) := upd_same
      have flr : H lr = none := S4.free nlr
      have rlt : lt ≠ lr := ne_of_none hl4 nlr
      generalize upd H4 lr (.lst []) = H5 at S5 hlr
      have wd : ∀ k, u + used r.1 k (ws.drop u) ≤ ws.length := fun k => by
        have := used_le (wide := r.1) (h := k) (ws := ws.drop u)
        rw [List.length_drop] at this
        omega
      refine run_seq (while_n (fun m σ H6 => ∃ (k : Nat) (o7 o8 : Option V), m = r.2.toNat - k ∧ (k : Int) ≤ r.2 ∧ σ = [some (.ref a), some (.ref b), some (.int ((u + used r.1 k (ws.drop u) : Nat) : Int)), some (.ref lt), some (.int r.1), some (.int r.2), some (.ref lr), o7, o8] ∧
          But lr H4 H6 ∧ H6 lr = some (.lst (tx ((lns r.1 k (ws.drop u)).map glue))) ∧ (lns r.1 k (ws.drop u)).length = k) (r.2.toNat - 0)
        ⟨0, o7, o8, rfl, by have := okr.2; omega, rfl, But.of S5, hlr, rfl⟩ ?_)
      rintro m σ H6 ⟨k, o7, o8, rfl, hk, rfl, B6, hlr6, ll⟩
      have S6 : Same H H6 := But.same S4 B6 flr
      have ha6 := S6 _ _ ha
      have wk := wd k
      generalize hat : u + used r.1 k (ws.drop u) = at_ at wk
      obtain ⟨v, hv⟩ : ∃ v, v = ws.getD at_ [] := ⟨_, rfl⟩
      have ev2 : at_ < ws.length → ws[at_]? = some v := fun h => by
        rw [hv, List.getD_eq_getElem?_getD, List.getElem?_eq_getElem h]
        rfl
      have eat : at_ < ws.length → atI (tx ws) (at_ : Int) = some (.str (txt v)) := fun h => atI_nat (tx_get (ev2 h))
      have v12 : at_ < ws.length → v.length ≤ 1000000 := fun h => Nat.le_trans (hw v (List.mem_of_getElem? (ev2 h))).2.1 (by decide)
      have dd : (ws.drop u).drop (used r.1 k (ws.drop u)) = ws.drop at_ := by rw [List.drop_drop, hat]
      refine ⟨(at_ : Int) < (((tx ws).length : Nat) : Int) ∧ ((v.length : Int) ≤ r.1 ∧ (((tx ((lns r.1 k (ws.drop u)).map glue)).length : Nat) : Int) < r.2), inferInstance,
        tst_andL (tst_of (evl_I0 (evl_var rfl) (evl_lenL (evl_var rfl) (SqL.of ha6)))) (fun h => tst_andL (tst_of (evl_I0 (evl_lenS (evl_ixL (evl_var rfl) (evl_var rfl) (SqL.of ha6) (eat (by rw [tx_len] at h; omega))) (v12 (by rw [tx_len] at h; omega))) (evl_var rfl))) (fun _ => tst_of (evl_I0 (evl_lenL (evl_var rfl) (SqL.of hlr6)) (evl_var rfl)))), fun h => ?_, fun h => ?_⟩
      · rw [tx_len, tx_len, List.length_map, ll] at h
        obtain ⟨h1, h2, h3⟩ := h
        have h1 : at_ < ws.length := by omega
        have f0 : fit r.1 (-1) (ws.drop at_) ≠ 0 := by
          rw [← List.drop_zero (l := ws.drop at_), fit_cons (j := 0) (v := v) (by rw [List.getElem?_drop, Nat.add_zero]; exact ev2 h1) (by omega)]
          exact Nat.succ_ne_zero _
        have fl := fit_le (wide := r.1) (u := -1) (ws := ws.drop at_)
        rw [List.length_drop] at fl
        refine seq_asg (evl_var rfl) ?_
        refine seq_asg evl_neg1 ?_
        refine run_seq (while_n (fun m σ H7 => ∃ (j : Nat) (us : Int), m = ws.length - (at_ + j) ∧ at_ + j ≤ ws.length ∧ σ = [some (.ref a), some (.ref b), some (.int (at_ : Int)), some (.ref lt), some (.int r.1), some (.int r.2), some (.ref lr), some (.int ((at_ + j : Nat) : Int)), some (.int us)] ∧
            H7 = H6 ∧ fit r.1 (-1) (ws.drop at_) = j + fit r.1 us ((ws.drop at_).drop j)) (ws.length - (at_ + 0)) ⟨0, -1, rfl, by omega, rfl, rfl, by rw [List.drop_zero, Nat.zero_add]⟩ ?_)
        rintro m σ H7 ⟨j, us, rfl, hj, rfl, rfl, hf⟩
        obtain ⟨y, hy⟩ : ∃ y, y = ws.getD (at_ + j) [] := ⟨_, rfl⟩
        have ey : at_ + j < ws.length → ws[at_ + j]? = some y := fun h => by
          rw [hy, List.getD_eq_getElem?_getD, List.getElem?_eq_getElem h]
          rfl
        have eaty : at_ + j < ws.length → atI (tx ws) ((at_ + j : Nat) : Int) = some (.str (txt y)) := fun h => atI_nat (tx_get (ey h))
        have y12 : at_ + j < ws.length → y.length ≤ 1000000 := fun h => Nat.le_trans (hw y (List.mem_of_getElem? (ey h))).2.1 (by decide)
        refine ⟨((at_ + j : Nat) : Int) < (((tx ws).length : Nat) : Int) ∧ us + 1 + (y.length : Int) ≤ r.1, inferInstance,
          tst_andL (tst_of (evl_I0 (evl_var rfl) (evl_lenL (evl_var rfl) (SqL.of ha6)))) (fun h => tst_of (evl_I0 (evl_I0 (evl_I0 (evl_var rfl) evl_c) (evl_lenS (evl_ixL (evl_var rfl) (evl_var rfl) (SqL.of ha6) (eaty (by rw [tx_len] at h; omega))) (y12 (by rw [tx_len] at h; omega)))) (evl_var rfl))), fun h => ?_, fun h => ?_⟩
        · rw [tx_len] at h
          have g1 : at_ + j < ws.length := by omega
          refine seq_asg (evl_I0 (evl_I0 (evl_var rfl) evl_c) (evl_lenS (evl_ixL (evl_var rfl) (evl_var rfl) (SqL.of ha6) (eaty g1)) (y12 g1))) ?_
          refine run_asg (evl_I0 (evl_var rfl) evl_c) ?_
          refine ⟨ws.length - (at_ + (j + 1)), by omega, j + 1, us + 1 + (y.length : Int), rfl, by omega, ?_, rfl, ?_⟩
          · rw [show ((at_ + (j + 1) : Nat) : Int) = ((at_ + j : Nat) : Int) + 1 by omega]
            rfl
          · rw [hf, fit_cons (j := j) (v := y) (by rw [List.getElem?_drop]; exact ey g1) h.2]
            omega
        · have fz : fit r.1 us ((ws.drop at_).drop j) = 0 := fit_stop fun z hz => by
            rw [List.getElem?_drop] at hz
            have g1 := (List.getElem?_eq_some_iff.mp hz).1
            rw [ey g1] at hz
            cases hz
            intro c
            apply h
            rw [tx_len]
            exact ⟨by omega, c⟩
          have hf : fit r.1 (-1) (ws.drop at_) = j := by omega
          refine ⟨_, rfl, .inl ⟨rfl, _, SqL.of hlr6⟩, rfl, _, rfl, _, rfl, _, rfl, _, rfl, _, rfl, a, _, rfl, SqL.of ha6, fun pc nc => ?_⟩
          rw [cutV_mid ws at_ j (by omega)]
          have S8 := same_new (o := .lst (tx ((ws.drop at_).take j))) nc
          have hpc : (upd H7 pc (.lst (tx ((ws.drop at_).take j)))) pc = some (.lst (tx ((ws.drop at_).take j))) := upd_same
          generalize upd H7 pc (.lst (tx ((ws.drop at_).take j))) = H8 at S8 hpc
          refine ⟨pc, (ws.drop at_).take j, rfl, rfl, SqL.of hpc, ?_, ?_⟩
          · have := sum_le (B := 12) (ls := (ws.drop at_).take j) (fun z hz => (hw z (List.mem_of_mem_drop (List.mem_of_mem_take hz))).2.1)
            have l2 : ((ws.drop at_).take j).length ≤ 1000 := by rw [List.length_take, List.length_drop]; omega
            omega
          refine ⟨lr, _, _, rfl, rfl, S8 _ _ hlr6, ?_, ?_⟩
          · rw [tx_len, List.length_map, ll]
            have kn : (lns r.1 k (ws.drop u)).length ≤ 1000 := by
              have e : (lns r.1 k (ws.drop u)).length = ((lns r.1 k (ws.drop u)).map glue).length := (List.length_map _).symm
              rw [e, ← lns_taken, List.length_take]
              have := taken_len_le r.1 (nar r.1 (ws.drop u))
              have := nar_len (wide := r.1) (ws := ws.drop u)
              rw [List.length_drop] at this
              omega
            rw [ll] at kn
            exact Nat.lt_of_le_of_lt kn (by decide)
          refine run_asg (evl_var rfl) ?_
          have ln := lns_next (wide := r.1) (k := k) (ws := ws.drop u) (by rw [dd]; exact f0)
          have un := used_next (wide := r.1) (k := k) (ws := ws.drop u)
          rw [dd, hf] at ln un
          refine ⟨r.2.toNat - (k + 1), by omega, k + 1, some (.int ((at_ + j : Nat) : Int)), some (.int us), rfl, by omega, ?_, ?_, ?_, ?_⟩
          · rw [un, show u + (used r.1 k (ws.drop u) + j) = at_ + j by omega]
            rfl
          · exact But.upd (B6.trans (But.of S8))
          · rw [upd_same, tx_snoc, ln, List.map_append]
            rfl
          · rw [ln, List.length_append, ll]
            rfl
      · have stop : lns r.1 r.2.toNat (ws.drop u) = lns r.1 k (ws.drop u) := by
          refine lns_stop (by omega) ?_
          by_cases e : k = r.2.toNat
          · exact .inl e
          · refine .inr ?_
            rw [dd, ← List.drop_zero (l := ws.drop at_)]
            refine fit_stop fun z hz c => h ?_
            rw [List.getElem?_drop, Nat.add_zero] at hz
            have g1 := (List.getElem?_eq_some_iff.mp hz).1
            rw [ev2 g1] at hz
            cases hz
            rw [tx_len, tx_len, List.length_map, ll]
            exact ⟨by omega, by omega, by omega⟩
        have us : used r.1 r.2.toNat (ws.drop u) = used r.1 k (ws.drop u) := by
          unfold used
          rw [stop]
        have hl6 := B6 _ _ rlt hl4
        refine ⟨_, rfl, .inl ⟨rfl, _, SqL.of hl6⟩, _, rfl, lt, _, _, rfl, rfl, hl6, ?_, ?_⟩
        · rw [refs_len, lp]
          exact Nat.lt_of_le_of_lt (show i ≤ 1000 by omega) (by decide)
        rw [refs_snoc]
        have lrp : lr ∉ ps := fun z => by
          obtain ⟨g, hg⟩ := hRs.has z
          rw [nlr] at hg
          cases hg
        have hR6 : Rs H6 ps acc := by
          have : ∀ {qs : List Addr} {gs : List (List (List W))}, lr ∉ qs → Rs H4 qs gs → Rs H6 qs gs := fun {qs gs} hq hR => by
            induction hR with
            | nil => exact .nil
            | cons h _ ih => exact .cons (B6 _ _ (fun z => hq (by rw [z]; exact List.mem_cons_self)) h) (ih fun z => hq (List.mem_cons_of_mem _ z))
          exact this lrp hRs
        refine ⟨some (.int r.1), some (.int r.2), some (.ref lr), o7, o8, ps ++ [lr], ?_, same_upd S6 nlt, upd_same, ?_, by rw [List.length_append, lp]; rfl, ?_⟩
        · show _ = ([some (.ref a), some (.ref b), some (.int ((u + used r.1 r.2.toNat (ws.drop u) : Nat) : Int)), some (.ref lt), some (.int r.1), some (.int r.2), some (.ref lr), o7, o8] : List (Option V))
          rw [us, hat]
        · intro z
          rcases List.mem_append.mp z with m | m
          · exact nd m
          · exact rlt (List.mem_singleton.mp m)
        · show Rs _ (ps ++ [lr]) (acc ++ [lns r.1 r.2.toNat (ws.drop u)])
          rw [stop]
          exact (Rs.but nd hR6).snoc ((upd_ne (Ne.symm rlt)).trans hlr6)
    · rintro σ H4 ⟨o4, o5, o6, o7, o8, ps, rfl, S4, hl4, nd, lp, hRs⟩
      rw [lx, List.take_length] at hRs ⊢
      have ul := pour_le ws rs
      refine ⟨_, rfl, _, rfl, _, rfl, _, rfl, a, _, rfl, SqL.of (S4 _ _ ha), fun ll nll => ?_⟩
      rw [cutV_tx_drop ws _ ul]
      have S5 := same_new (o := .lst (tx (ws.drop (pour ws rs).2))) nll
      have hll : (upd H4 ll (.lst (tx (ws.drop (pour ws rs).2)))) ll = some (.lst (tx (ws.drop (pour ws rs).2))) := upd_same
      generalize upd H4 ll (.lst (tx (ws.drop (pour ws rs).2))) = H5 at S5 hll
      refine ⟨by show 2 ≤ sizeLine; decide, fun t nt => ?_⟩
      have S6 := same_new (o := .tup [.ref lt, .ref ll]) nt
      exact q t _ (S4.trans (S5.trans S6)) ⟨lt, ll, ps, upd_same, S6 _ _ (S5 _ _ hl4), S6 _ _ hll, hRs.same (S5.trans S6)⟩
end
end KS
set_option Elab.async false
set_option linter.all false
set_option maxRecDepth 100000
set_option maxHeartbeats 1000000
namespace KS
open PySem L2 Lin PySem.W
open Tre (T)
theorem glue_sum : ∀ ls : List W, ls ≠ [] → (ls.map List.length).sum + ls.length = (glue ls).length + 1
  | [], h => absurd rfl h
  | [a], _ => by
    show a.length + 0 + 1 = a.length + 1
    omega
  | a :: b :: r, _ => by
    have ih := glue_sum (b :: r) (by simp)
    show a.length + ((b :: r).map List.length).sum + ((b :: r).length + 1) = (a ++ 32 :: glue (b :: r)).length + 1
    rw [List.length_append, List.length_cons (a := 32)]
    omega
theorem flat_len {α : Type} : ∀ gs : List (List α), (∀ g ∈ gs, g ≠ []) → gs.length ≤ gs.flatten.length
  | [], _ => Nat.le_refl _
  | g :: gs, h => by
    have := flat_len gs fun z hz => h z (List.mem_cons_of_mem _ hz)
    have := List.length_pos_iff.mpr (h g List.mem_cons_self)
    rw [List.flatten_cons, List.length_append, List.length_cons]
    omega
theorem flat_take {α : Type} : ∀ (gs : List (List α)) (k : Nat), (gs.take k).flatten.length ≤ gs.flatten.length
  | [], k => by rw [List.take_nil]; exact Nat.le_refl _
  | g :: gs, 0 => Nat.zero_le _
  | g :: gs, k + 1 => by
    have := flat_take gs k
    rw [List.take_succ_cons, List.flatten_cons, List.flatten_cons, List.length_append, List.length_append]
    omega
theorem tx_app (a b : List W) : tx a ++ tx b = tx (a ++ b) := by
  unfold tx
  rw [List.map_append]
def Rw (H : Hp) : List Addr → List (List W) → Prop := Paired fun p r => H p = some (.lst (tx r))
theorem Rs.rw {H : Hp} : ∀ {ps : List Addr} {gs : List (List (List W))}, Rs H ps gs → Rw H ps (gs.map fun g => g.map glue)
  | _, _, .nil => .nil
  | _, _, .cons h t => .cons h (Rs.rw t)
theorem Rw.same {H H' : Hp} (S : Same H H') : ∀ {ps : List Addr} {gs : List (List W)}, Rw H ps gs → Rw H' ps gs
  | _, _, .nil => .nil
  | _, _, .cons h t => .cons (S _ _ h) (Rw.same S t)
theorem Rw.off {H H' : Hp} : ∀ {ps : List Addr} {gs : List (List W)}, (∀ p ∈ ps, ∀ u, H p = some u → H' p = some u) → Rw H ps gs → Rw H' ps gs
  | _, _, _, .nil => .nil
  | _, _, n, .cons h t => .cons (n _ List.mem_cons_self _ h) (Rw.off (fun p hp => n p (List.mem_cons_of_mem _ hp)) t)
theorem Rw.len {H : Hp} : ∀ {ps : List Addr} {gs : List (List W)}, Rw H ps gs → ps.length = gs.length
  | _, _, .nil => rfl
  | _, _, .cons _ t => by rw [List.length_cons, List.length_cons, Rw.len t]
theorem Rw.get {H : Hp} : ∀ {ps : List Addr} {gs : List (List W)} {i : Nat} {p : Addr}, Rw H ps gs → ps[i]? = some p → ∃ g, gs[i]? = some g ∧ H p = some (.lst (tx g))
  | _, _, _, _, .nil, e => by simp at e
  | _, _, 0, _, .cons h _, e => by simp at e; subst e; exact ⟨_, rfl, h⟩
  | _, _, i + 1, p, .cons _ t, e => by
    obtain ⟨g, h1, h2⟩ := Rw.get (i := i) (p := p) t (by simpa using e)
    exact ⟨g, by simpa using h1, h2⟩
theorem Rw.app {H : Hp} : ∀ {ps qs : List Addr} {gs hs : List (List W)}, Rw H ps gs → Rw H qs hs → Rw H (ps ++ qs) (gs ++ hs)
  | _, _, _, _, .nil, s => s
  | _, _, _, _, .cons h t, s => .cons h (Rw.app t s)
theorem Rw.take {H : Hp} : ∀ {ps : List Addr} {gs : List (List W)} (k : Nat), Rw H ps gs → Rw H (ps.take k) (gs.take k)
  | _, _, 0, _ => .nil
  | _, _, _ + 1, .nil => .nil
  | _, _, k + 1, .cons h t => .cons h (Rw.take k t)
theorem Rw.drop {H : Hp} : ∀ {ps : List Addr} {gs : List (List W)} (k : Nat), Rw H ps gs → Rw H (ps.drop k) (gs.drop k)
  | _, _, 0, h => h
  | _, _, _ + 1, .nil => .nil
  | _, _, k + 1, .cons h t => Rw.drop k t
theorem nd_split {ps : List Addr} {k : Nat} {p : Addr} (h : ps.Nodup) (e : ps[k]? = some p) : p ∉ ps.take k ∧ p ∉ ps.drop (k + 1) ∧ ps = ps.take k ++ p :: ps.drop (k + 1) := by
  obtain ⟨hk, ev⟩ := List.getElem?_eq_some_iff.mp e
  have sp : ps = ps.take k ++ p :: ps.drop (k + 1) := by
    rw [← ev, ← List.drop_eq_getElem_cons hk, List.take_append_drop]
  rw [sp] at h
  obtain ⟨_, h2, h3⟩ := List.nodup_append.mp h
  exact ⟨fun z => h3 p z p List.mem_cons_self rfl, (List.nodup_cons.mp h2).1, sp⟩
theorem Rw.put {H : Hp} {ps : List Addr} {gs : List (List W)} {k : Nat} {p : Addr} {r : List W} (nd : ps.Nodup) (e : ps[k]? = some p) (h : Rw H ps gs) : Rw (upd H p (.lst (tx r))) ps (gs.take k ++ r :: gs.drop (k + 1)) := by
  obtain ⟨n1, n2, sp⟩ := nd_split nd e
  have o : ∀ qs : List Addr, p ∉ qs → ∀ b ∈ qs, ∀ u, H b = some u → (upd H p (.lst (tx r))) b = some u := fun qs hq b hb u hu => by
    rw [upd_ne (fun z => hq (by rw [← z]; exact hb))]
    exact hu
  have hh : Rw (upd H p (.lst (tx r))) (ps.take k ++ p :: ps.drop (k + 1)) (gs.take k ++ r :: gs.drop (k + 1)) := Rw.app (Rw.off (o _ n1) (h.take k)) (.cons upd_same (Rw.off (o _ n2) (h.drop (k + 1))))
  rw [← sp] at hh
  exact hh
theorem eq_rw {K : PySem.W.Frag} {H : Hp} {n : Nat} {a b : Addr} {ps qs : List Addr} {gs : List (List W)} (ha : H a = some (.lst (refs ps))) (hb : H b = some (.lst (refs qs))) (h1 : Rw H ps gs) (h2 : Rw H qs gs) : EqR K H (n + 2) (.ref a) (.ref b) true := by
  have l1 := h1.len
  have l2 := h2.len
  refine eqR_true (EqR.lsts (n := n + 1) (e := fun _ => true) (SqL.of ha) (SqL.of hb) (by rw [refs_len, refs_len]; omega) fun j hj => ?_) (by simp)
  rw [refs_len] at hj
  have hj2 : j < qs.length := by omega
  rw [refs_getD hj, refs_getD hj2]
  obtain ⟨g, e1, g1⟩ := h1.get (List.getElem?_eq_getElem hj)
  obtain ⟨g', e2, g2⟩ := h2.get (List.getElem?_eq_getElem hj2)
  rw [e1] at e2
  cases e2
  exact eq_tx (SqL.of g1) (SqL.of g2)
def spApart : Sp := fun vs H Q _ => ∃ (x y lf ll mf ml : Addr) (ps qs : List Addr) (gs : List (List W)) (left : List W) (at_ : Nat), vs = [.ref x, .ref y, .int at_] ∧ H x = some (.tup [.ref lf, .ref ll]) ∧ H lf = some (.lst (refs ps)) ∧ H ll = some (.lst (tx left)) ∧ Rw H ps gs ∧
  (lf :: ll :: ps).Nodup ∧ H y = some (.tup [.ref mf, .ref ml]) ∧ H mf = some (.lst (refs qs)) ∧ H ml = some (.lst (tx left)) ∧ Rw H qs gs ∧ (∀ p ∈ ll :: ps, p ∉ mf :: ml :: qs) ∧ at_ < ps.length ∧ ps.length ≤ 100 ∧ left.length ≤ 1000 ∧ (∀ g ∈ gs, g.length ≤ 1000) ∧
  ∀ H', (∀ b u, b ∉ ll :: ps → H b = some u → H' b = some u) → Q (.bl true) H'
section
variable {P : Program} {w : World} {K : PySem.W.Frag} {mg : Str → Option Value} {base : Heap}
theorem scTold : FnScope ["found", "due", "words", "put", "room"] ["found", "due", "words"] (defScope sTold) := ⟨rfl, rfl, rfl, by decide +kernel, rfl, by decide +kernel, by decide +kernel⟩
theorem ok_told {f : Addr} {fd : FuncData} (F : Fun K "_law_told" "_law_told" sTold f fd) (Z : Nr K mg) : FnOk P w K mg base CX0 1 f fd ["found", "due", "words"] spTold := by
  obtain ⟨ti, tint, tbool, ttup, tlist, tl, tall, tany, tsum, te, kI, kB, kT, kL⟩ := Z
  refine F.ok scTold (fun vs H Q E h => ?_) (fun cdv A outer s H vs Q E hr h => ?_)
  · obtain ⟨x, y, l, ws, rs, rfl, _⟩ := h
    rfl
  · obtain ⟨x, y, l, ws, rs, rfl, hl, hw, hn, hrn, tX, tY, q⟩ := h
    refine ⟨_, (pss_cons (ps_if (PW.pt (pw_or (pt_not (pt_val (pe_callB call_isi (by rfl) ti PyProof.Rows.boot_isinstance (pa_cons (pv 0) (pa_cons (pe_tyn rfl ttup PyProof.Rows.boot_tuple) pa_nil))))) (pw_or1 (pt_cmpR op_ne (pe_callB call_len_seq (by rfl) tl PySem.boot_len (pa_cons (pv 0) pa_nil)) pe_int (nomark _)))))
      (pss_one (ps_ret pe_bl))
      pss_nil)
      (pss_cons (ps_if (PW.pt (pw_or (pt_not (pt_val (pe_callB call_isi (by rfl) ti PyProof.Rows.boot_isinstance (pa_cons (pe_ix ix_tup (pv 0) pe_int (fun _ _ => rfl)) (pa_cons (pe_tyn rfl tlist PyProof.Rows.boot_list) pa_nil))))) (pw_or1 (pt_not (pt_val (pe_callB call_isi (by rfl) ti PyProof.Rows.boot_isinstance (pa_cons (pe_ix ix_tup (pv 0) pe_int (fun _ _ => rfl)) (pa_cons (pe_tyn rfl tlist PyProof.Rows.boot_list) pa_nil))))))))
      (pss_one (ps_ret pe_bl))
      pss_nil)
      (pss_cons (ps_set (i := 3) scTold.nd rfl (Or.inl rfl) (pe_lst pa_nil))
      (pss_cons (ps_for PassesOwn.never rfl (pi_list (pe_ix ix_tup (pv 0) pe_int (fun _ _ => rfl))) (pg_name (i := 4) scTold.nd rfl (Or.inl rfl))
      (pss_cons (ps_if (pt_not (pt_val (pe_callB call_isi (by rfl) ti PyProof.Rows.boot_isinstance (pa_cons (pv 4) (pa_cons (pe_tyn rfl tlist PyProof.Rows.boot_list) pa_nil)))))
        (pss_one (ps_ret pe_bl))
        pss_nil)
        (pss_one (ps_expr (pe_bm PySem.F.plainAttrs_list PySem.F.slot_list_extend PySem.F.type_list_extend mt_extend (pv 3) (pa_cons (pv 4) pa_nil))))))
      (pss_one (ps_ret (pe_and (pe_cmpR (op_eqR hr.units) (pv 0) (pv 1) (nomark _)) (pe_one (pe_cmpR op_eq (pe_bm PySem.F.plainAttrs_str PySem.F.slot_str_join PySem.F.type_str_join mt_joinB pe_str (by exact (pa_cons (pe_op op_cat (pv 3) (pe_ix ix_tup (pv 0) pe_int (fun _ _ => rfl))) pa_nil))) (pe_bm PySem.F.plainAttrs_str PySem.F.slot_str_join PySem.F.type_str_join mt_joinB pe_str (by exact (pa_cons (pv 2) pa_nil))) (nomark _)))))))))), ?_⟩
    have pf := pour_flat ws rs
    have pn := pour_ne ws rs
    have pl := pour_len ws rs
    have pu := pour_le ws rs
    have tX0 := tX
    obtain ⟨lf, ll, ps, hx, hlf, hll, hRs⟩ := tX
    generalize pour ws rs = st at pf pn pl pu tX0 tY hll hRs
    obtain ⟨gs, u⟩ := st
    dsimp only at pf pn pl pu tX0 tY hll hRs
    have lg := hRs.len
    have fn : ∀ g ∈ gs.flatten, g ≠ [] := fun g hg => by
      obtain ⟨z, hz, hg⟩ := List.mem_flatten.mp hg
      exact pn z hz g hg
    have fl : gs.flatten.length ≤ 1000 := by
      have := flat_len gs.flatten fn
      rw [pf, List.length_take] at this
      omega
    refine ⟨_, rfl, _, _, _, _, rfl, rfl, .of (.tup hx), rfl, _, rfl, iteF ?_⟩
    refine ⟨_, rfl, _, _, rfl, .inr (SqT.of hx), rfl, _, rfl, ite2 (fun c => absurd c (by show ¬ (!decide (V.int ((2 : Nat) : Int) = V.int 2)) = true; decide)) (fun _ => ?_)⟩
    refine run_next ?_
    dsimp only
    refine ⟨_, rfl, _, _, _, _, rfl, rfl, SqT.of hx, rfl, _, _, _, _, rfl, rfl, .of (.lst hlf), rfl, _, rfl, iteF ?_⟩
    refine ⟨_, rfl, _, _, _, _, rfl, rfl, SqT.of hx, rfl, _, _, _, _, rfl, rfl, .of (.lst hll), rfl, _, rfl, iteF ?_⟩
    refine run_next ?_
    dsimp only
    refine seq_lst ⟨by show 0 ≤ sizeLine; decide, fun lp nlp => ?_⟩
    have S1 := same_new (o := .lst []) nlp
    have hlp : (upd H lp (.lst [])) lp = some (.lst []) := upd_same
    generalize upd H lp (.lst []) = H1 at S1 hlp
    refine ⟨_, rfl, _, _, _, _, rfl, rfl, SqT.of (S1 _ _ hx), rfl, lf, rfl, ⟨_, SqL.of (S1 _ _ hlf)⟩, for_list (K := K) (a := lf) (xs := refs ps) (fun i σ H4 => ∃ o4 : Option V, σ = [some (.ref x), some (.ref y), some (.ref l), some (.ref lp), o4] ∧ Same H H4 ∧ H4 lp = some (.lst (tx ((gs.take i).flatten.map glue)))) ⟨none, rfl, S1, hlp⟩
      (fun i σ H4 _ ⟨_, _, S, _⟩ => SqL.of (S _ _ hlf)) ?_ ?_⟩
    · rintro i v σ H4 hv ⟨o4, rfl, S4, hlp4⟩
      unfold refs at hv
      rw [List.getElem?_map] at hv
      obtain ⟨p, ep, rfl⟩ : ∃ p, ps[i]? = some p ∧ v = .ref p := by
        cases e : ps[i]? with
        | none => rw [e] at hv; cases hv
        | some p => rw [e] at hv; cases hv; exact ⟨p, rfl, rfl⟩
      obtain ⟨g, eg, hp⟩ := hRs.get ep
      obtain ⟨hil, ev⟩ := List.getElem?_eq_some_iff.mp eg
      have hp4 := S4 _ _ hp
      refine run_gname ?_
      refine ⟨_, rfl, _, _, _, _, rfl, rfl, .of (.lst hp4), rfl, _, rfl, iteF ?_⟩
      refine run_next ?_
      dsimp only
      have e1 : (gs.take (i + 1)).flatten = (gs.take i).flatten ++ g := by
        rw [← List.take_append_getElem hil, ev, List.flatten_append]
        show _ ++ (g ++ []) = _
        rw [List.append_nil]
      refine ⟨_, rfl, .inl ⟨rfl, _, SqL.of hlp4⟩, _, rfl, lp, p, _, _, rfl, rfl, hlp4, hp4, ?_, _, rfl, same_upd S4 nlp, ?_⟩
      · rw [tx_len, tx_len, List.length_map, List.length_map, ← List.length_append, ← e1]
        exact Nat.le_trans (Nat.le_trans (flat_take gs (i + 1)) fl) (by decide)
      · rw [upd_same, tx_app, e1, List.map_append]
    · rintro σ H4 ⟨o4, rfl, S4, hlp4⟩
      rw [refs_len, lg, List.take_length] at hlp4
      refine ⟨_, rfl, _, rfl, x, y, 3, true, rfl, rfl, eq_told (tX0.same S4) (tY.same S4), by decide, _, rfl, iteT ?_⟩
      have wj : ∀ zs : List W, glue zs = glue ws → (zs.map List.length).sum + zs.length ≤ 1000000 := fun zs e => by
        by_cases h0 : zs = []
        · rw [h0]
          decide
        · rw [glue_sum zs h0, e]
          by_cases h1 : ws = []
          · rw [h1]
            decide
          · rw [← glue_sum ws h1]
            have := sum_le (B := 12) (ls := ws) fun z hz => (hw z hz).2.1
            omega
      have eg : glue (gs.flatten.map glue ++ ws.drop u) = glue ws := by rw [glue_lines _ _ fn, pf, List.take_append_drop]
      refine ⟨rfl, _, rfl, _, rfl, _, _, _, _, rfl, rfl, SqT.of (S4 _ _ hx), rfl, lp, ll, _, _, rfl, rfl, hlp4, S4 _ _ hll, ?_, fun p3 np3 => ?_⟩
      · rw [tx_len, tx_len, List.length_map, List.length_drop]
        exact Nat.le_trans (show _ ≤ 2000 by omega) (by decide)
      rw [tx_app]
      have S5 := same_new (o := .lst (tx (gs.flatten.map glue ++ ws.drop u))) np3
      have hp3 : (upd H4 p3 (.lst (tx (gs.flatten.map glue ++ ws.drop u)))) p3 = some (.lst (tx (gs.flatten.map glue ++ ws.drop u))) := upd_same
      generalize upd H4 p3 (.lst (tx (gs.flatten.map glue ++ ws.drop u))) = H5 at S5 hp3
      refine ⟨p3, _, rfl, rfl, SqL.of hp3, wj _ eg, rfl, _, rfl, l, ws, rfl, rfl, SqL.of ((S4.trans S5) _ _ hl), wj ws rfl, rfl, ?_⟩
      rw [eg, decide_eq_true rfl]
      exact q H5 (S4.trans S5)
theorem scApart : FnScope ["found", "due", "at", "k", "some"] ["found", "due", "at"] (defScope sApart) := ⟨rfl, rfl, rfl, by decide +kernel, rfl, by decide +kernel, by decide +kernel⟩
theorem ok_apart {f : Addr} {fd : FuncData} (F : Fun K "_law_apart" "_law_apart" sApart f fd) (tl : mg "len" = none) (tr : mg "range" = none) (tint : mg "int" = none) : FnOk P w K mg base CX0 1 f fd ["found", "due", "at"] spApart := by
  refine F.ok scApart (fun vs H Q E h => ?_) (fun cdv A outer s H vs Q E hr h => ?_)
  · obtain ⟨x, y, lf, ll, mf, ml, ps, qs, gs, left, at_, rfl, _⟩ := h
    rfl
  · obtain ⟨x, y, lf, ll, mf, ml, ps, qs, gs, left, at_, rfl, hx, hlf, hll, hR, nd, hy, hmf, hml, hR2, dj, hat, pn, ln, gn, q⟩ := h
    refine ⟨_, (pss_cons (ps_expr (pe_bm PySem.F.plainAttrs_list PySem.F.slot_list_append PySem.F.type_list_append mt_append (pe_ix ix_list (pe_ix ix_tup (pv 0) pe_int (fun _ _ => rfl)) (pv 2) (fun _ _ => rfl)) (pa_cons pe_str pa_nil)))
      (pss_cons (ps_for PassesOwn.never rfl (pi_range1 rfl tr (pa_cons (pe_callB call_len_seq (by rfl) tl PySem.boot_len (pa_cons (pe_ix ix_tup (pv 1) pe_int (fun _ _ => rfl)) pa_nil)) pa_nil)) (pg_name (i := 3) scApart.nd rfl (Or.inl rfl))
      (pss_one (ps_if (pt_cmpR (op_neR hr.units) (pe_ix ix_list (pe_ix ix_tup (pv 0) pe_int (fun _ _ => rfl)) (pv 3) (fun _ _ => rfl)) (pe_op op_cat (pe_ix ix_list (pe_ix ix_tup (pv 1) pe_int (fun _ _ => rfl)) (pv 3) (fun _ _ => rfl)) (pe_op op_rep (pe_lst (pa_cons pe_str pa_nil)) (pe_callTy call_intB rfl tint PyProof.Rows.boot_int (pa_cons (pe_cmpR op_eq (pv 3) (pv 2) (nomark _)) pa_nil)))) (nomark _))
        (pss_one (ps_ret pe_bl))
        pss_nil)))
      (pss_cons (ps_if (pt_cmpR (op_neR hr.units) (pe_ix ix_tup (pv 0) pe_int (fun _ _ => rfl)) (pe_ix ix_tup (pv 1) pe_int (fun _ _ => rfl)) (nomark _))
      (pss_one (ps_ret pe_bl))
      pss_nil)
      (pss_cons (ps_expr (pe_bm PySem.F.plainAttrs_list PySem.F.slot_list_append PySem.F.type_list_append mt_append (pe_ix ix_tup (pv 0) pe_int (fun _ _ => rfl)) (pa_cons pe_str pa_nil)))
      (pss_cons (ps_set (i := 4) scApart.nd rfl (Or.inl rfl) (pe_op op_cat (pe_ix ix_list (pe_ix ix_tup (pv 1) pe_int (fun _ _ => rfl)) (pv 2) (fun _ _ => rfl)) (pe_lst (pa_cons pe_str pa_nil))))
      (pss_one (ps_ret (pe_cmpR (op_eqR hr.units) (pe_ix ix_tup (pv 0) pe_int (fun _ _ => rfl)) (pe_op op_cat (pe_op op_cat (pe_slice sl_list (pe_ix ix_tup (pv 1) pe_int (fun _ _ => rfl)) po_none (po_some (pv 2))) (pe_lst (pa_cons (pv 4) pa_nil))) (pe_slice sl_list (pe_ix ix_tup (pv 1) pe_int (fun _ _ => rfl)) (po_some (pe_op op_add (pv 2) pe_int)) po_none)) (nomark _))))))))), ?_⟩
    have ea : ("a" : Str) = txt [97] := by decide +kernel
    have eb : ("b" : Str) = txt [98] := by decide +kernel
    obtain ⟨nf, nd⟩ := List.nodup_cons.mp nd
    obtain ⟨nl, nd⟩ := List.nodup_cons.mp nd
    have l1 := hR.len
    have l2 := hR2.len
    obtain ⟨p, ep⟩ : ∃ p, ps[at_]? = some p := ⟨_, List.getElem?_eq_getElem hat⟩
    have mp : p ∈ ps := List.mem_of_getElem? ep
    obtain ⟨g, eg, hp⟩ := hR.get ep
    have erf : ∀ {zs : List Addr} {k : Nat} {z : Addr}, zs[k]? = some z → atI (refs zs) (k : Int) = some (.ref z) := fun h => atI_nat (by unfold refs; rw [List.getElem?_map, h]; rfl)
    refine ⟨_, rfl, _, _, _, _, rfl, rfl, SqT.of hx, rfl, _, rfl, _, _, _, _, rfl, rfl, SqL.of hlf, erf ep, .inl ⟨rfl, _, SqL.of hp⟩, p, _, _, rfl, rfl, hp, ?_, ?_⟩
    · rw [tx_len]
      exact Nat.lt_of_le_of_lt (gn g (List.mem_of_getElem? eg)) (by decide)
    rw [ea, tx_snoc]
    have dp : p ∉ mf :: ml :: qs := dj p (List.mem_cons_of_mem _ mp)
    have off : ∀ b u, b ≠ p → H b = some u → (upd H p (.lst (tx (g ++ [[97]])))) b = some u := fun b u n e => by rw [upd_ne n]; exact e
    have xp : x ≠ p := fun z => by rw [z, hp] at hx; cases hx
    have yp : y ≠ p := fun z => by rw [z, hp] at hy; cases hy
    have hx1 := off _ _ xp hx
    have hy1 := off _ _ yp hy
    have hlf1 := off _ _ (fun z => nf (by rw [z]; exact List.mem_cons_of_mem _ mp)) hlf
    have hll1 := off _ _ (fun z => nl (by rw [z]; exact mp)) hll
    have hmf1 := off _ _ (fun z => dp (by rw [← z]; exact List.mem_cons_self)) hmf
    have hml1 := off _ _ (fun z => dp (by rw [← z]; exact List.mem_cons_of_mem _ List.mem_cons_self)) hml
    have hR1 : Rw (upd H p (.lst (tx (g ++ [[97]])))) ps (gs.take at_ ++ (g ++ [[97]]) :: gs.drop (at_ + 1)) := Rw.put nd ep hR
    have hR21 : Rw (upd H p (.lst (tx (g ++ [[97]])))) qs gs := Rw.off (fun b hb u e => off b u (fun z => dp (by rw [← z]; exact List.mem_cons_of_mem _ (List.mem_cons_of_mem _ hb))) e) hR2
    have O1 : ∀ b u, b ∉ ll :: ps → H b = some u → (upd H p (.lst (tx (g ++ [[97]])))) b = some u := fun b u n e => off b u (fun z => n (by rw [z]; exact List.mem_cons_of_mem _ mp)) e
    generalize upd H p (.lst (tx (g ++ [[97]]))) = H1 at hx1 hy1 hlf1 hll1 hmf1 hml1 hR1 hR21 O1
    clear off
    refine ⟨_, rfl, _, _, _, _, rfl, rfl, SqT.of hy1, rfl, _, _, rfl, .inl (SqL.of hmf1), _, rfl, by omega, by rw [refs_len]; omega, ?_⟩
    rw [refs_len, Int.toNat_natCast]
    refine for_range (lo := 0) (n := qs.length) (fun i σ H4 => ∃ o3 : Option V, σ = [some (.ref x), some (.ref y), some (.int (at_ : Int)), o3, none] ∧ Same H1 H4) ⟨none, rfl, Same.refl _⟩ ?_ ?_
    · rintro i σ H4 hi ⟨o3, rfl, S4⟩
      refine run_gname ?_
      rw [show (0 : Int) + (i : Int) = (i : Int) from Int.zero_add _]
      obtain ⟨a1, e1⟩ : ∃ a1, ps[i]? = some a1 := ⟨_, List.getElem?_eq_getElem (by omega)⟩
      obtain ⟨b1, e2⟩ : ∃ b1, qs[i]? = some b1 := ⟨_, List.getElem?_eq_getElem hi⟩
      obtain ⟨r1, f1, g1⟩ := hR1.get e1
      obtain ⟨r2, f2, g2⟩ := hR21.get e2
      have g1 := S4 _ _ g1
      have g2 := S4 _ _ g2
      refine ⟨_, rfl, _, _, _, _, rfl, rfl, SqT.of (S4 _ _ hx1), rfl, _, rfl, _, _, _, _, rfl, rfl, SqL.of (S4 _ _ hlf1), erf e1, ?_⟩
      refine ⟨_, rfl, _, _, _, _, rfl, rfl, SqT.of (S4 _ _ hy1), rfl, _, rfl, _, _, _, _, rfl, rfl, SqL.of (S4 _ _ hmf1), erf e2, ?_⟩
      refine ⟨by show 1 ≤ sizeLine; decide, fun pa npa => ?_⟩
      have S5 := same_new (o := .lst [.str (txt [97])]) npa
      have hpa : (upd H4 pa (.lst [.str (txt [97])])) pa = some (.lst (tx [[97]])) := upd_same
      generalize upd H4 pa (.lst [.str (txt [97])]) = H5 at S5 hpa
      refine ⟨_, rfl, _, rfl, rfl, _, rfl, ?_⟩
      have er : r1 = r2 ++ (if i = at_ then [[97]] else []) := by
        have la : (gs.take at_).length = at_ := by rw [List.length_take]; omega
        rcases Nat.lt_trichotomy i at_ with z | z | z
        · rw [List.getElem?_append_left (by omega), List.getElem?_take_of_lt z, f2] at f1
          cases f1
          rw [if_neg (by omega), List.append_nil]
        · subst z
          rw [List.getElem?_append_right (by omega), la, Nat.sub_self] at f1
          rw [eg] at f2
          cases f1
          cases f2
          rw [if_pos rfl]
        · rw [List.getElem?_append_right (by omega), la, show i - at_ = (i - at_ - 1) + 1 by omega, List.getElem?_cons_succ, List.getElem?_drop, show at_ + 1 + (i - at_ - 1) = i by omega, f2] at f1
          cases f1
          rw [if_neg (by omega), List.append_nil]
      have dk : (if decide (V.int (i : Int) = V.int (at_ : Int)) then (1 : Int) else 0) = if i = at_ then 1 else 0 := by
        rw [dec_int]
        by_cases z : i = at_
        · subst z
          simp
        · rw [if_neg z]
          have : ((i : Int) == (at_ : Int)) = false := by rw [beq_eq_false_iff_ne]; omega
          rw [this]
          rfl
      rw [dk]
      have r2n := gn r2 (List.mem_of_getElem? f2)
      refine ⟨pa, _, _, rfl, rfl, hpa, by split <;> decide, by split <;> decide, ?_, fun pb npb => ?_⟩
      · rw [tx_len]
        exact Nat.le_trans (show _ ≤ 1000 by split <;> simp) (by decide)
      have hpb : (List.replicate (if i = at_ then (1 : Int) else 0).toNat (tx [[97]])).flatten = tx (if i = at_ then [[97]] else []) := by
        split <;> rfl
      rw [hpb]
      have S6 := same_new (o := .lst (tx (if i = at_ then [[97]] else []))) npb
      have hb6 : (upd H5 pb (.lst (tx (if i = at_ then [[97]] else [])))) pb = some (.lst (tx (if i = at_ then [[97]] else []))) := upd_same
      generalize upd H5 pb (.lst (tx (if i = at_ then [[97]] else []))) = H6 at S6 hb6
      have g1 := S6 _ _ (S5 _ _ g1)
      have g2 := S6 _ _ (S5 _ _ g2)
      refine ⟨b1, pb, _, _, rfl, rfl, g2, hb6, ?_, fun pc npc => ?_⟩
      · rw [tx_len, tx_len]
        exact Nat.le_trans (show _ ≤ 1001 by split <;> simp <;> omega) (by decide)
      rw [tx_app, ← er]
      have S7 := same_new (o := .lst (tx r1)) npc
      refine ⟨a1, pc, 1, true, rfl, rfl, eq_tx (SqL.of (S7 _ _ g1)) (SqL.of upd_same), by decide, _, rfl, iteF ?_⟩
      exact ⟨_, rfl, S4.trans (S5.trans (S6.trans S7))⟩
    · rintro σ H4 ⟨o3, rfl, S4⟩
      have hx4 := S4 _ _ hx1
      have hy4 := S4 _ _ hy1
      have hll4 := S4 _ _ hll1
      refine ⟨_, rfl, _, _, _, _, rfl, rfl, SqT.of hx4, rfl, _, rfl, _, _, _, _, rfl, rfl, SqT.of hy4, rfl, ll, ml, 1, true, rfl, rfl, eq_tx (SqL.of hll4) (SqL.of (S4 _ _ hml1)), by decide, _, rfl, iteF ?_⟩
      refine run_next ?_
      dsimp only
      refine ⟨_, rfl, _, _, _, _, rfl, rfl, SqT.of hx4, rfl, .inl ⟨rfl, _, SqL.of hll4⟩, ll, _, _, rfl, rfl, hll4, ?_, ?_⟩
      · rw [tx_len]
        exact Nat.lt_of_le_of_lt ln (by decide)
      have dl : ll ∉ mf :: ml :: qs := dj ll List.mem_cons_self
      have off : ∀ b u, b ≠ ll → H4 b = some u → (upd H4 ll (.lst (tx left ++ [.str "b"]))) b = some u := fun b u n e => by rw [upd_ne n]; exact e
      have hx5 := off _ _ (fun z => by rw [z, hll4] at hx4; cases hx4) hx4
      have hy5 := off _ _ (fun z => by rw [z, hll4] at hy4; cases hy4) hy4
      have hlf5 := off _ _ (fun z => nf (by rw [z]; exact List.mem_cons_self)) (S4 _ _ hlf1)
      have hmf5 := off _ _ (fun z => dl (by rw [← z]; exact List.mem_cons_self)) (S4 _ _ hmf1)
      have hR5 : Rw (upd H4 ll (.lst (tx left ++ [.str "b"]))) ps (gs.take at_ ++ (g ++ [[97]]) :: gs.drop (at_ + 1)) := Rw.off (fun b hb u e => off b u (fun z => nl (by rw [← z]; exact hb)) e) (hR1.same S4)
      have hR25 : Rw (upd H4 ll (.lst (tx left ++ [.str "b"]))) qs gs := Rw.off (fun b hb u e => off b u (fun z => dl (by rw [← z]; exact List.mem_cons_of_mem _ (List.mem_cons_of_mem _ hb))) e) (hR21.same S4)
      have O5 : ∀ b u, b ∉ ll :: ps → H b = some u → (upd H4 ll (.lst (tx left ++ [.str "b"]))) b = some u := fun b u n e => off b u (fun z => n (by rw [z]; exact List.mem_cons_self)) (S4 _ _ (O1 b u n e))
      generalize upd H4 ll (.lst (tx left ++ [.str "b"])) = H5 at hx5 hy5 hlf5 hmf5 hR5 hR25 O5
      clear off
      obtain ⟨b1, e2⟩ : ∃ b1, qs[at_]? = some b1 := ⟨_, List.getElem?_eq_getElem (by omega)⟩
      obtain ⟨r2, f2, g2⟩ := hR25.get e2
      rw [eg] at f2
      cases f2
      refine ⟨_, rfl, _, _, _, _, rfl, rfl, SqT.of hy5, rfl, _, rfl, _, _, _, _, rfl, rfl, SqL.of hmf5, erf e2, by show 1 ≤ sizeLine; decide, fun pa npa => ?_⟩
      have S6 := same_new (o := .lst [.str (txt [97])]) npa
      have hpa : (upd H5 pa (.lst [.str (txt [97])])) pa = some (.lst (tx [[97]])) := upd_same
      generalize upd H5 pa (.lst [.str (txt [97])]) = H6 at S6 hpa
      refine ⟨b1, pa, _, _, rfl, rfl, S6 _ _ g2, hpa, ?_, fun pz npz => ?_⟩
      · rw [tx_len, tx_len]
        exact Nat.le_trans (show g.length + 1 ≤ 1001 by have := gn g (List.mem_of_getElem? eg); omega) (by decide)
      rw [tx_app]
      have S7 := S6.trans (same_new (o := .lst (tx (g ++ [[97]]))) npz)
      have hpz : (upd H6 pz (.lst (tx (g ++ [[97]])))) pz = some (.lst (tx (g ++ [[97]]))) := upd_same
      generalize upd H6 pz (.lst (tx (g ++ [[97]]))) = H7 at S7 hpz
      refine ⟨_, rfl, _, _, _, _, rfl, rfl, SqT.of (S7 _ _ hx5), rfl, _, rfl, _, _, _, _, rfl, rfl, SqT.of (S7 _ _ hy5), rfl, _, rfl, _, rfl, mf, _, rfl, SqL.of (S7 _ _ hmf5), fun q1 nq1 => ?_⟩
      rw [cutV_takeI _ _ (by omega), Int.toNat_natCast]
      have et : (refs qs).take at_ = refs (qs.take at_) := by unfold refs; rw [List.map_take]
      rw [et]
      have S8 := same_new (o := .lst (refs (qs.take at_))) nq1
      have h8 : (upd H7 q1 (.lst (refs (qs.take at_)))) q1 = some (.lst (refs (qs.take at_))) := upd_same
      generalize upd H7 q1 (.lst (refs (qs.take at_))) = H8 at S8 h8
      refine ⟨_, rfl, by show 1 ≤ sizeLine; decide, fun q2 nq2 => ?_⟩
      have S9 := same_new (o := .lst [.ref pz]) nq2
      have h9 : (upd H8 q2 (.lst [.ref pz])) q2 = some (.lst (refs [pz])) := upd_same
      generalize upd H8 q2 (.lst [.ref pz]) = H9 at S9 h9
      refine ⟨q1, q2, _, _, rfl, rfl, S9 _ _ h8, h9, ?_, fun q3 nq3 => ?_⟩
      · rw [refs_len, refs_len, List.length_take]
        exact Nat.le_trans (show _ + 1 ≤ 1001 by omega) (by decide)
      have ra : ∀ a b : List Addr, refs a ++ refs b = refs (a ++ b) := fun a b => by unfold refs; rw [List.map_append]
      rw [ra]
      have S10 := same_new (o := .lst (refs (qs.take at_ ++ [pz]))) nq3
      have h10 : (upd H9 q3 (.lst (refs (qs.take at_ ++ [pz])))) q3 = some (.lst (refs (qs.take at_ ++ [pz]))) := upd_same
      generalize upd H9 q3 (.lst (refs (qs.take at_ ++ [pz]))) = H10 at S10 h10
      have S710 := S8.trans (S9.trans S10)
      refine ⟨_, rfl, _, _, _, _, rfl, rfl, SqT.of (S710 _ _ (S7 _ _ hy5)), rfl, _, rfl, _, _, rfl, rfl, _, rfl, mf, _, rfl, SqL.of (S710 _ _ (S7 _ _ hmf5)), fun q4 nq4 => ?_⟩
      rw [show ((at_ : Int) + 1) = ((at_ + 1 : Nat) : Int) by omega, cutV_drop _ (at_ + 1) (by rw [refs_len]; omega)]
      have ed : (refs qs).drop (at_ + 1) = refs (qs.drop (at_ + 1)) := by unfold refs; rw [List.map_drop]
      rw [ed]
      have S11 := same_new (o := .lst (refs (qs.drop (at_ + 1)))) nq4
      have h11 : (upd H10 q4 (.lst (refs (qs.drop (at_ + 1))))) q4 = some (.lst (refs (qs.drop (at_ + 1)))) := upd_same
      generalize upd H10 q4 (.lst (refs (qs.drop (at_ + 1)))) = H11 at S11 h11
      refine ⟨q3, q4, _, _, rfl, rfl, S11 _ _ h10, h11, ?_, fun q5 nq5 => ?_⟩
      · rw [refs_len, refs_len, List.length_append, List.length_take, List.length_drop]
        exact Nat.le_trans (show _ ≤ 1001 by simp; omega) (by decide)
      rw [ra]
      have S12 := S710.trans (S11.trans (same_new (o := .lst (refs (qs.take at_ ++ [pz] ++ qs.drop (at_ + 1)))) nq5))
      have S712 := S7.trans S12
      have hR9 : Rw (upd H11 q5 (.lst (refs (qs.take at_ ++ [pz] ++ qs.drop (at_ + 1))))) (qs.take at_ ++ [pz] ++ qs.drop (at_ + 1)) (gs.take at_ ++ (g ++ [[97]]) :: gs.drop (at_ + 1)) := by
        have z := Rw.app ((hR25.take at_).same S712) (.cons (S12 _ _ hpz) ((hR25.drop (at_ + 1)).same S712))
        have e : qs.take at_ ++ pz :: qs.drop (at_ + 1) = qs.take at_ ++ [pz] ++ qs.drop (at_ + 1) := by simp
        rw [e] at z
        exact z
      exact ⟨lf, q5, 2, true, rfl, rfl, eq_rw (S712 _ _ hlf5) upd_same (hR5.same S712) hR9, by decide, q _ fun b u n e => S712 _ _ (O5 b u n e)⟩
end
end KS
set_option Elab.async false
set_option linter.all false
set_option maxRecDepth 100000
set_option maxHeartbeats 1000000
namespace KS
open PySem L2 Lin PySem.W
open Tre (T)
theorem cut_ints (ns : List Int) (lo hi : Option Int) : ∃ ms : List Int, cutV (ns.map V.int) lo hi = ms.map V.int := by
  unfold cutV
  exact ⟨_, by rw [← List.map_drop, ← List.map_take]⟩
theorem ints_of {ns : List Int} : ∀ {ys : List V}, (∀ y ∈ ys, y ∈ ns.map V.int) → ∃ ms : List Int, ys = ms.map V.int
  | [], _ => ⟨[], rfl⟩
  | y :: ys, h => by
    obtain ⟨n, _, rfl⟩ := List.mem_map.mp (h y List.mem_cons_self)
    obtain ⟨ms, rfl⟩ := ints_of (ys := ys) fun z hz => h z (List.mem_cons_of_mem _ hz)
    exact ⟨n :: ms, rfl⟩
theorem eq_rooms {K : PySem.W.Frag} {H : Hp} {n : Nat} {a b : Addr} {xs : List V} {rs : List Rm} (ha : H a = some (.lst xs)) (hb : H b = some (.lst xs)) (hA : AtL H xs (rs.map rT)) : EqR K H (n + 2) (.ref a) (.ref b) true := by
  refine eqR_true (EqR.lsts (n := n + 1) (e := fun _ => true) (SqL.of ha) (SqL.of hb) rfl fun j hj => ?_) (by simp)
  have ex := List.getElem?_eq_getElem hj
  rw [List.getD_eq_getElem?_getD, ex]
  obtain ⟨r, p, _, e, hp⟩ := hA.room ex
  rw [e]
  show EqR K H (n + 1) (.ref p) (.ref p) true
  refine eqR_true (EqR.tups (n := n) (e := fun k => eqV ([V.int r.1, .int r.2].getD k .non) ([V.int r.1, .int r.2].getD k .non)) (SqT.of hp) (SqT.of hp) fun k h3 _ => ?_) ?_
  · match k, h3 with
    | 0, _ => exact .flat rfl rfl
    | 1, _ => exact .flat rfl rfl
    | k + 2, h => exact absurd h (by simp)
  · have e1 : eqV (V.int r.1) (.int r.1) = true := eqV_refl rfl
    have e2 : eqV (V.int r.2) (.int r.2) = true := eqV_refl rfl
    show ((eqV (V.int r.1) (.int r.1) && (eqV (V.int r.2) (.int r.2) && true)) && true) = true
    rw [e1, e2]
    rfl
theorem eq_handed {K : PySem.W.Frag} {H : Hp} {hh p h0 h1 l lr : Addr} {ws : List W} {xs : List V} {rs : List Rm} (a1 : H hh = some (.lst [.ref h0, .ref h1])) (a2 : H p = some (.lst [.ref l, .ref lr])) (b1 : H h0 = some (.lst (tx ws))) (b2 : H l = some (.lst (tx ws)))
    (c1 : H h1 = some (.lst xs)) (c2 : H lr = some (.lst xs)) (hA : AtL H xs (rs.map rT)) : EqR K H 3 (.ref hh) (.ref p) true := by
  refine eqR_true (EqR.lsts (n := 2) (e := fun _ => true) (SqL.of a1) (SqL.of a2) rfl fun j hj => ?_) rfl
  match j, hj with
  | 0, _ => exact eq_tx (SqL.of b1) (SqL.of b2)
  | 1, _ => exact eq_rooms c1 c2 hA
  | j + 2, hj => exact absurd hj (by simp)
theorem eq_bls {K : PySem.W.Frag} {H : Hp} {a b : Addr} {bs : List Bool} (ha : H a = some (.lst (bs.map V.bl))) (hb : H b = some (.lst (bs.map V.bl))) : EqR K H 1 (.ref a) (.ref b) true := by
  have fl : ∀ j, j < (bs.map V.bl).length → flatV ((bs.map V.bl).getD j .non) = true := fun j hj => by
    rw [List.length_map] at hj
    rw [List.getD_eq_getElem?_getD, List.getElem?_map, List.getElem?_eq_getElem hj]
    rfl
  refine eqR_true (EqR.lsts (n := 0) (e := fun j => eqV ((bs.map V.bl).getD j .non) ((bs.map V.bl).getD j .non)) (SqL.of ha) (SqL.of hb) rfl fun j hj => .flat (fl j hj) (fl j hj)) ?_
  rw [List.all_eq_true]
  intro j hj
  exact eqV_refl (fl j (List.mem_range.mp hj))
theorem rows_len (ws : List W) : ∀ (rs : List Rm) (p : List (List (List W)) × Nat), (∀ gs ∈ p.1, gs.length ≤ ws.length) → ∀ gs ∈ (rs.foldl (step ws) p).1, gs.length ≤ ws.length
  | [], p, h => h
  | r :: rs, p, h => rows_len ws rs _ (by
    intro gs hgs
    rcases List.mem_append.mp hgs with m | m
    · exact h gs m
    · rw [List.mem_singleton.mp m]
      have e : (lns r.1 r.2.toNat (ws.drop p.2)).length = ((lns r.1 r.2.toNat (ws.drop p.2)).map glue).length := (List.length_map _).symm
      rw [e, ← lns_taken, List.length_take]
      have := taken_len_le r.1 (nar r.1 (ws.drop p.2))
      have := nar_len (wide := r.1) (ws := ws.drop p.2)
      rw [List.length_drop] at this
      omega)
def spLaw (K : PySem.W.Frag) : Sp := fun vs H Q _ => ∃ (a : Addr) (ns : List Int), vs = [.ref a] ∧ SqL K H a (ns.map V.int) ∧ ns.length ≤ 63 ∧ ∀ H', Q (.bl true) H'
section
variable {P : Program} {w : World} {K : PySem.W.Frag} {mg : Str → Option Value} {base : Heap}
theorem scLaw : FnScope ["script", "way", "words", "some", "due", "handed", "found", "at", "none", "j", "deck", "bad", "worse", "one"] ["script"] (defScope sLaw) := ⟨rfl, rfl, rfl, by decide +kernel, rfl, by decide +kernel, by decide +kernel⟩
theorem ok_law {f C6 C5 fCe fLw fRo fDu fPo fTo fAp fBw fBr fRf : Addr} {fd dCe dLw dRo dDu dPo dTo dAp dBw dBr dRf : FuncData} (F : Fun K "law" "law" sLaw f fd) (tl : mg "len" = none) (tlist : mg "list" = none) (tsum : mg "sum" = none) (tr : mg "range" = none)
    (Ce : Callee P w K mg base CX0 1 "_law_cell_at" fCe dCe ["script", "k"] (spCellAt K)) (Lw : Callee P w K mg base CX0 2 "_law_word" fLw dLw ["cell", "way"] spLw) (Ro : Callee P w K mg base CX0 2 "_law_rooms" fRo dRo ["script"] (spRooms K))
    (Du : Callee P w K mg base CX0 1 "_law_due" fDu dDu ["words", "some"] spDue) (Po : Callee P w K mg base (CXE P w) 5 "poured" fPo dPo ["words", "rooms"] (spPour C6 C5)) (To : Callee P w K mg base CX0 1 "_law_told" fTo dTo ["found", "due", "words"] spTold)
    (Ap : Callee P w K mg base CX0 1 "_law_apart" fAp dAp ["found", "due", "at"] spApart) (Bw : Callee P w K mg base CX0 2 "_law_bad_words" fBw dBw ["words", "deck"] spBadW) (Br : Callee P w K mg base CX0 2 "_law_bad_rooms" fBr dBr ["some", "deck"] spBadR)
    (Rf : Callee P w K mg base CX0 6 "_law_refused" fRf dRf ["words", "some"] spRefused) : FnOk P w K mg base CX0 7 f fd ["script"] (spLaw K) := by
  refine F.ok scLaw (fun vs H Q E h => ?_) (fun cdv A outer s H vs Q E hr h => ?_)
  · obtain ⟨a, ns, rfl, _⟩ := h
    rfl
  · obtain ⟨a, ns, rfl, hS, h63, q⟩ := h
    refine ⟨_, (pss_cons (ps_set (i := 1) scLaw.nd rfl (Or.inr rfl) (pe_op op_mod (pe_call Ce.ok (hr.mono (show 1 ≤ 6 by decide)) rfl Ce.bound Ce.kp Ce.bd .nil pass0 (pa_cons (pv 0) (pa_cons pe_int pa_nil))) pe_int))
      (pss_cons (ps_comp (i := 2) (Nc := ["cell", "way"]) (ix := [none, some 1]) scLaw.nd rfl (Or.inl rfl) rfl rfl (by refine' pi_list ?zz; case zz => exact (pe_slice sl_list (pv 0) (po_some pe_int) (po_some pe_int))) (fun _ _ _ _ _ => (pg_name (i := 0) (by show (["cell", "way"] : List Str).Nodup; decide +kernel) rfl (Or.inl rfl))) (fun _ _ _ _ _ => pts_nil) (fun _ _ _ _ _ => (pe_call Lw.ok (hr.mono (show 2 ≤ 6 by decide)) rfl Lw.bound Lw.kp Lw.bd .nil pass0 (pa_cons (pv 0) (pa_cons (pv 1) pa_nil)))))
      (pss_cons (ps_if (pt_cmpR op_eq (pe_op op_mod (pe_op op_fdiv (pe_call Ce.ok (hr.mono (show 1 ≤ 6 by decide)) rfl Ce.bound Ce.kp Ce.bd .nil pass0 (pa_cons (pv 0) (pa_cons pe_int pa_nil))) pe_int) pe_int) pe_int (nomark _))
      (pss_one (ps_set (i := 2) scLaw.nd rfl (Or.inl rfl) (pe_op op_rep (pv 2) pe_int)))
      pss_nil)
      (pss_cons (ps_set (i := 3) scLaw.nd rfl (Or.inl rfl) (pe_call Ro.ok (hr.mono (show 2 ≤ 6 by decide)) rfl Ro.bound Ro.kp Ro.bd .nil pass0 (pa_cons (pv 0) pa_nil)))
      (pss_cons (ps_set (i := 4) scLaw.nd rfl (Or.inl rfl) (pe_call Du.ok (hr.mono (show 1 ≤ 6 by decide)) rfl Du.bound Du.kp Du.bd .nil pass0 (pa_cons (pv 2) (pa_cons (pv 3) pa_nil))))
      (pss_cons (ps_set (i := 5) scLaw.nd rfl (Or.inl rfl) (pe_lst (pa_cons (pe_callTy call_list_of rfl tlist PyProof.Rows.boot_list (pa_cons (pv 2) pa_nil)) (pa_cons (pe_callTy call_list_of rfl tlist PyProof.Rows.boot_list (pa_cons (pv 3) pa_nil)) pa_nil))))
      (pss_cons (ps_set (i := 6) scLaw.nd rfl (Or.inl rfl) (pe_call Po.ok (hr.mono (show 5 ≤ 6 by decide)) rfl Po.bound Po.kp Po.bd .nil passE0 (pa_cons (pe_ix ix_list (pv 5) pe_int (fun _ _ => rfl)) (pa_cons (pe_ix ix_list (pv 5) pe_int (fun _ _ => rfl)) pa_nil))))
      (pss_cons (ps_if (PW.pt (pw_or (pt_not (pt_val (pe_call To.ok (hr.mono (show 1 ≤ 6 by decide)) rfl To.bound To.kp To.bd .nil pass0 (pa_cons (pv 6) (pa_cons (pv 4) (pa_cons (pv 2) pa_nil)))))) (pw_or1 (pt_cmpR (op_neR hr.units) (pv 5) (pe_lst (pa_cons (pv 2) (pa_cons (pv 3) pa_nil))) (nomark _)))))
      (pss_one (ps_ret pe_bl))
      pss_nil)
      (pss_cons (ps_set (i := 7) scLaw.nd rfl (Or.inl rfl) (pe_op op_mod (pe_op op_fdiv (pe_call Ce.ok (hr.mono (show 1 ≤ 6 by decide)) rfl Ce.bound Ce.kp Ce.bd .nil pass0 (pa_cons (pv 0) (pa_cons pe_int pa_nil))) pe_int) (pe_callB call_len_seq (by rfl) tl PySem.boot_len (pa_cons (pv 3) pa_nil))))
      (pss_cons (ps_if (PW.pt (pw_or (pt_not (pt_val (pe_call Ap.ok (hr.mono (show 1 ≤ 6 by decide)) rfl Ap.bound Ap.kp Ap.bd .nil pass0 (pa_cons (pv 6) (pa_cons (pv 4) (pa_cons (pv 7) pa_nil)))))) (pw_or1 (pt_cmpR (op_neR hr.units) (pv 5) (pe_lst (pa_cons (pv 2) (pa_cons (pv 3) pa_nil))) (nomark _)))))
      (pss_one (ps_ret pe_bl))
      pss_nil)
      (pss_cons (ps_if (pt_not (pt_val (pe_call To.ok (hr.mono (show 1 ≤ 6 by decide)) rfl To.bound To.kp To.bd .nil pass0 (pa_cons (pe_call Po.ok (hr.mono (show 5 ≤ 6 by decide)) rfl Po.bound Po.kp Po.bd .nil passE0 (pa_cons (pe_ix ix_list (pv 5) pe_int (fun _ _ => rfl)) (pa_cons (pe_ix ix_list (pv 5) pe_int (fun _ _ => rfl)) pa_nil))) (pa_cons (pv 4) (pa_cons (pv 2) pa_nil))))))
      (pss_one (ps_ret pe_bl))
      pss_nil)
      (pss_cons (ps_set (i := 8) scLaw.nd rfl (Or.inl rfl) (pe_call Po.ok (hr.mono (show 5 ≤ 6 by decide)) rfl Po.bound Po.kp Po.bd .nil passE0 (pa_cons (pe_ix ix_list (pv 5) pe_int (fun _ _ => rfl)) (pa_cons (pe_lst pa_nil) pa_nil))))
      (pss_cons (ps_if (pt_cmpR (op_neR hr.units) (pv 8) (pe_tup (pa_cons (pe_lst pa_nil) (pa_cons (pv 2) pa_nil))) (nomark _))
      (pss_one (ps_ret pe_bl))
      pss_nil)
      (pss_cons (ps_expr (pe_bm PySem.F.plainAttrs_list PySem.F.slot_list_append PySem.F.type_list_append mt_append (pe_ix ix_tup (pv 8) pe_int (fun _ _ => rfl)) (pa_cons pe_str pa_nil)))
      (pss_cons (ps_expr (pe_bm PySem.F.plainAttrs_list PySem.F.slot_list_append PySem.F.type_list_append mt_append (pe_ix ix_tup (pv 8) pe_int (fun _ _ => rfl)) (pa_cons (pe_lst pa_nil) pa_nil)))
      (pss_cons (ps_if (PW.pt (pw_or (pt_cmpR (op_neR hr.units) (pv 5) (pe_lst (pa_cons (pv 2) (pa_cons (pv 3) pa_nil))) (nomark _)) (pw_or1 (pt_cmpR (op_neR hr.units) (pe_call Po.ok (hr.mono (show 5 ≤ 6 by decide)) rfl Po.bound Po.kp Po.bd .nil passE0 (pa_cons (pe_ix ix_list (pv 5) pe_int (fun _ _ => rfl)) (pa_cons (pe_lst pa_nil) pa_nil))) (pe_tup (pa_cons (pe_lst pa_nil) (pa_cons (pv 2) pa_nil))) (nomark _)))))
      (pss_one (ps_ret pe_bl))
      pss_nil)
      (pss_cons (ps_for PassesOwn.never rfl (pi_range1 rfl tr (pa_cons pe_int pa_nil)) (pg_name (i := 9) scLaw.nd rfl (Or.inl rfl))
      (pss_cons (ps_set (i := 10) scLaw.nd rfl (Or.inl rfl) (pe_lst (pa_cons (pe_callB (call_sumG rfl) (by rfl) tsum PyProof.Rows.boot_sum (pa_cons (pe_step (pv 0) (pe_op op_add pe_int (pv 9)) pe_int pe_int) pa_nil)) (pa_cons (pe_op op_mod (pv 9) pe_int) (pa_cons (pv 9) pa_nil)))))
        (pss_cons (ps_set (i := 11) scLaw.nd rfl (Or.inl rfl) (pe_call Bw.ok (hr.mono (show 2 ≤ 6 by decide)) rfl Bw.bound Bw.kp Bw.bd .nil pass0 (pa_cons (pv 2) (pa_cons (pv 10) pa_nil))))
        (pss_cons (ps_set (i := 12) scLaw.nd rfl (Or.inl rfl) (pe_call Br.ok (hr.mono (show 2 ≤ 6 by decide)) rfl Br.bound Br.kp Br.bd .nil pass0 (pa_cons (pv 3) (pa_cons (pv 10) pa_nil))))
        (pss_cons (ps_for PassesOwn.never rfl (pi_list (pe_lst (pa_cons (pv 3) (pa_cons (pv 12) pa_nil)))) (pg_name (i := 13) scLaw.nd rfl (Or.inl rfl))
        (pss_one (ps_if (pt_cmpR (op_neR hr.units) (pe_call Rf.ok (hr.mono (show 6 ≤ 6 by decide)) rfl Rf.bound Rf.kp Rf.bd .nil pass0 (pa_cons (pv 11) (pa_cons (pv 13) pa_nil))) (pe_lst (pa_cons pe_bl (pa_cons pe_bl (pa_cons pe_bl (pa_cons pe_bl pa_nil))))) (nomark _))
          (pss_one (ps_ret pe_bl))
          pss_nil)))
        (pss_one (ps_if (pt_cmpR (op_neR hr.units) (pe_call Rf.ok (hr.mono (show 6 ≤ 6 by decide)) rfl Rf.bound Rf.kp Rf.bd .nil pass0 (pa_cons (pv 2) (pa_cons (pv 12) pa_nil))) (pe_lst (pa_cons pe_bl (pa_cons pe_bl (pa_cons pe_bl (pa_cons pe_bl pa_nil))))) (nomark _))
        (pss_one (ps_ret pe_bl))
        pss_nil)))))))
      (pss_one (ps_ret pe_bl))))))))))))))))))), ?_⟩
    refine ⟨_, rfl, a, ns, 0, rfl, hS, by decide, fun c0 => ?_⟩
    refine ⟨_, _, rfl, rfl, (by show (0 : Int) < 2; decide), ?_⟩
    obtain ⟨cells, hcut⟩ := cut_ints ns (some 2) (some 62)
    have hcl : cells.length ≤ 63 := by
      have := cutV_length (ns.map V.int) (some 2) (some 62)
      rw [hcut, List.length_map, List.length_map] at this
      omega
    refine ⟨_, rfl, _, rfl, _, rfl, a, _, rfl, hS, fun pc nc => ?_⟩
    rw [hcut]
    have S1 := same_new (o := .lst (cells.map V.int)) nc
    have hpc : (upd H pc (.lst (cells.map V.int))) pc = some (.lst (cells.map V.int)) := upd_same
    generalize upd H pc (.lst (cells.map V.int)) = H1 at S1 hpc
    refine ⟨pc, rfl, ⟨_, SqL.of hpc⟩, cmp_list (K := K) (a := pc) (xs := cells.map V.int) (fun i ys σ H' => ∃ ws : List W, ys = tx ws ∧ ws.length = i ∧ (∀ u ∈ ws, okW u) ∧ Same H1 H' ∧ ∃ o, σ = [o, some (.int (c0 % 2))])
      ⟨[], rfl, rfl, fun u hu => (List.not_mem_nil hu).elim, Same.refl _, none, rfl⟩ (fun i ys σ H' hi ⟨ws, e, l1, _, S, _⟩ => ⟨by rw [e, tx_len, l1]; rw [List.length_map] at hi; exact Nat.le_trans (show i ≤ 63 by omega) (by decide), SqL.of (S _ _ hpc)⟩) ?_ ?_⟩
    case refine_2 =>
      rintro i x ys σ H' hx ⟨ws, rfl, l1, hw, S, o, rfl⟩
      obtain ⟨n, rfl⟩ : ∃ n, x = V.int n := by
        rw [List.getElem?_map] at hx
        cases e : cells[i]? with
        | none => rw [e] at hx; cases hx
        | some n => rw [e] at hx; cases hx; exact ⟨n, rfl⟩
      dsimp only [gName, tYes]
      refine iteT ?_
      refine ⟨_, rfl, _, rfl, n, (c0 % 2), rfl, fun u H2 S2 hu => ?_⟩
      refine ⟨ws ++ [u], tx_snoc ws u, by rw [List.length_append, l1]; rfl, fun z hz => ?_, S.trans S2, _, rfl⟩
      rcases List.mem_append.mp hz with y | y
      · exact hw z y
      · rw [List.mem_singleton.mp y]
        exact hu
    rintro ys σ H2 ⟨ws, rfl, l1, hw, S2, _⟩ l nl
    rw [List.length_map] at l1
    have S12 := S1.trans (S2.trans (same_new (o := .lst (tx ws)) nl))
    have hl : (upd H2 l (.lst (tx ws))) l = some (.lst (tx ws)) := upd_same
    generalize upd H2 l (.lst (tx ws)) = H3 at S12 hl
    clear S2 nl S1 hpc nc H1 H2
    try dsimp only
    refine seq_key (R := fun σ H4 => ∃ (l : Addr) (ws : List W), σ = [some (.ref a), some (.int (c0 % 2)), some (.ref l), none, none, none, none, none, none, none, none, none, none, none] ∧ Same H H4 ∧ H4 l = some (.lst (tx ws)) ∧ ws.length ≤ 189 ∧ ∀ u ∈ ws, okW u) ?_ (fun k => ?_)
    case refine_2 =>
      refine ⟨_, rfl, a, ns, 0, rfl, S12.seq hS, by decide, fun c1 => ?_⟩
      refine ⟨_, _, rfl, rfl, ⟨by decide, by decide⟩, _, _, rfl, rfl, (by show (0 : Int) < 3; decide), rfl, _, rfl, ?_⟩
      refine ite2 (fun c => ?_) (fun c => ?_)
      · refine ⟨_, rfl, l, _, _, rfl, rfl, hl, by decide, by decide, ?_, fun l3 n3 => ?_⟩
        · rw [tx_len, l1]
          exact Nat.le_trans (show cells.length * 3 ≤ 189 by omega) (by decide)
        · refine k _ _ ⟨l3, (List.replicate 3 ws).flatten, rfl, S12.trans (same_new n3), ?_, ?_, fun u hu => ?_⟩
          · rw [upd_same]
            show some (HO.lst (List.replicate 3 (tx ws)).flatten) = _
            unfold tx
            rw [List.map_flatten, List.map_replicate]
          · rw [len_rep, l1]
            omega
          · obtain ⟨z, hz, hu⟩ := List.mem_flatten.mp hu
            rw [List.eq_of_mem_replicate hz] at hu
            exact hw u hu
      · exact k _ _ ⟨l, ws, rfl, S12, hl, by omega, hw⟩
    clear hl S12 hw l1
    rintro σ H4 ⟨l, ws, rfl, S4, hl, hn, hw⟩
    refine ⟨_, rfl, a, ns, rfl, S4.seq hS, fun lr xr rs H5 S5 hlr hA ok r1 r8 => ?_⟩
    have hl5 := S5 _ _ hl
    have S05 := S4.trans S5
    clear S4 S5 hl
    refine ⟨_, rfl, _, rfl, l, lr, ws, xr, rs, rfl, hl5, hw, by omega, hlr, hA, ok, by omega, fun td H6 S6 hT => ?_⟩
    have lx := hA.len
    rw [List.length_map] at lx
    refine ⟨_, rfl, l, _, rfl, .inl (SqL.of (S6 _ _ hl5)), fun h0 nh0 => ?_⟩
    have S7 := S6.trans (same_new (o := .lst (tx ws)) nh0)
    have hT7 := hT.same (same_new (o := .lst (tx ws)) nh0)
    have e0 : (upd H6 h0 (.lst (tx ws))) h0 = some (.lst (tx ws)) := upd_same
    generalize upd H6 h0 (.lst (tx ws)) = H7 at S7 hT7 e0
    refine ⟨_, rfl, lr, _, rfl, .inl (SqL.of (S7 _ _ hlr)), fun h1 nh1 => ?_⟩
    have S8 := S7.trans (same_new (o := .lst xr) nh1)
    have hT8 := hT7.same (same_new (o := .lst xr) nh1)
    have e08 := same_new (o := .lst xr) nh1 _ _ e0
    have e1 : (upd H7 h1 (.lst xr)) h1 = some (.lst xr) := upd_same
    generalize upd H7 h1 (.lst xr) = H8 at S8 hT8 e08 e1
    refine ⟨by show 2 ≤ sizeLine; decide, fun hh nhh => ?_⟩
    have S9 := S8.trans (same_new (o := .lst [.ref h0, .ref h1]) nhh)
    have hT := hT8.same (same_new (o := .lst [.ref h0, .ref h1]) nhh)
    have e0 := same_new (o := .lst [.ref h0, .ref h1]) nhh _ _ e08
    have e1 := same_new (o := .lst [.ref h0, .ref h1]) nhh _ _ e1
    have ehh : (upd H8 hh (.lst [.ref h0, .ref h1])) hh = some (.lst [.ref h0, .ref h1]) := upd_same
    generalize upd H8 hh (.lst [.ref h0, .ref h1]) = H9 at S9 hT e0 e1 ehh
    have hl := S9 _ _ hl5
    have hlr := S9 _ _ hlr
    have hA := hA.same S9
    have S0 := S05.trans S9
    clear S6 S7 S8 S9 hT7 hT8 e08 nh0 nh1 nhh S05 hl5
    have hn := hn
    have goodR : ∀ {Hx : Hp}, Same H9 Hx → GoodR Hx (.ref h1) rs := fun S => ⟨h1, xr, rfl, S _ _ e1, hA.same S, ok, by omega⟩
    -- found
    refine ⟨_, rfl, _, _, _, _, rfl, rfl, SqL.of ehh, rfl, _, rfl, _, _, _, _, rfl, rfl, SqL.of ehh, rfl, .ref h0, .ref h1, rfl, .inl ⟨h0, ws, rfl, e0, hw, by omega, .inl ⟨rs, goodR (Same.refl _), fun t lf ll ps H10 S10 nd fr ht hlf hll hRs => ?_⟩⟩⟩
    refine ⟨_, rfl, _, rfl, _, rfl, t, td, l, ws, rs, rfl, S10 _ _ hl, hw, by omega, by omega, ⟨lf, ll, ps, ht, hlf, hll, hRs⟩, hT.same S10, fun H11 S11 => ⟨_, rfl, iteF ?_⟩⟩
    have S911 := S10.trans S11
    have eqh : ∀ {Hx : Hp} {p : Addr}, Same H9 Hx → Hx p = some (.lst [.ref l, .ref lr]) → EqR K Hx 3 (.ref hh) (.ref p) true := fun S hp => eq_handed (S _ _ ehh) hp (S _ _ e0) (S _ _ hl) (S _ _ e1) (S _ _ hlr) (hA.same S)
    refine ⟨_, rfl, _, rfl, _, rfl, by show 2 ≤ sizeLine; decide, fun pw npw => ?_⟩
    have S12 := same_new (o := .lst [.ref l, .ref lr]) npw
    have hpw : (upd H11 pw (.lst [.ref l, .ref lr])) pw = some (.lst [.ref l, .ref lr]) := upd_same
    generalize upd H11 pw (.lst [.ref l, .ref lr]) = H12 at S12 hpw
    have S912 := S911.trans S12
    refine ⟨hh, pw, 3, true, rfl, rfl, eqh S912 hpw, by decide, _, rfl, iteF ?_⟩
    refine run_next ?_
    dsimp only
    have S1012 := S11.trans S12
    -- at
    refine ⟨_, rfl, a, ns, 1, rfl, (S0.trans S912).seq hS, by decide, fun c1 => ⟨_, _, rfl, rfl, ⟨by decide, by decide⟩, _, rfl, _, _, rfl, .inl (SqL.of (S912 _ _ hlr)), _, _, rfl, rfl, by rw [lx]; omega, ?_⟩⟩
    obtain ⟨k, hk⟩ : ∃ k : Nat, c1 / 3 % ((xr.length : Nat) : Int) = k := ⟨(c1 / 3 % ((xr.length : Nat) : Int)).toNat, by
      have := Int.emod_nonneg (c1 / 3) (show ((xr.length : Nat) : Int) ≠ 0 by omega)
      omega⟩
    have kl : k < rs.length := by
      have := Int.emod_lt_of_pos (c1 / 3) (show (0 : Int) < ((xr.length : Nat) : Int) by omega)
      omega
    dsimp only [gName]
    rw [hk]
    have lp := hRs.len
    rw [pour_len] at lp
    obtain ⟨mf, ml, qs, ty, tmf, tml, tR⟩ := hT
    have frs : ∀ p ∈ ll :: ps, H9 p = none := fun p hp => fr p (List.mem_cons_of_mem _ hp)
    refine ⟨_, rfl, _, rfl, _, rfl, t, td, lf, ll, mf, ml, ps, qs, (pour ws rs).1.map (fun g => g.map glue), ws.drop (pour ws rs).2, k, rfl, S1012 _ _ ht, S1012 _ _ hlf, S1012 _ _ hll, (hRs.same S1012).rw, nd, S912 _ _ ty, S912 _ _ tmf, S912 _ _ tml, (tR.same S912).rw, ?_, by omega, by omega, by rw [List.length_drop]; omega, ?_, fun H13 O13 => ⟨_, rfl, iteF ?_⟩⟩
    · intro p hp z
      have n := frs p hp
      rcases List.mem_cons.mp z with e | e
      · rw [e, tmf] at n; cases n
      · rcases List.mem_cons.mp e with e | e
        · rw [e, tml] at n; cases n
        · obtain ⟨g, hg⟩ := tR.has e
          rw [hg] at n; cases n
    · intro g hg
      obtain ⟨z, hz, rfl⟩ := List.mem_map.mp hg
      rw [List.length_map]
      have := rows_len ws rs ([], 0) (fun gs h => (List.not_mem_nil h).elim) z hz
      omega
    have S13 : Same H9 H13 := fun b u e => O13 b u (fun z => by rw [frs b z] at e; cases e) (S912 _ _ e)
    have hT : Told H9 td (pour ws rs).1 (ws.drop (pour ws rs).2) := ⟨mf, ml, qs, ty, tmf, tml, tR⟩
    clear O13 S1012 S912 S12 hpw npw S911 S11 S10 hRs hll hlf ht fr frs nd
    refine ⟨_, rfl, _, rfl, _, rfl, by show 2 ≤ sizeLine; decide, fun pw npw => ?_⟩
    have S14 := S13.trans (same_new (o := .lst [.ref l, .ref lr]) npw)
    have hpw : (upd H13 pw (.lst [.ref l, .ref lr])) pw = some (.lst [.ref l, .ref lr]) := upd_same
    generalize upd H13 pw (.lst [.ref l, .ref lr]) = H14 at S14 hpw
    refine ⟨hh, pw, 3, true, rfl, rfl, eqh S14 hpw, by decide, _, rfl, iteF ?_⟩
    refine run_next ?_
    dsimp only
    -- told again
    refine ⟨_, rfl, _, _, _, _, rfl, rfl, SqL.of (S14 _ _ ehh), rfl, _, rfl, _, _, _, _, rfl, rfl, SqL.of (S14 _ _ ehh), rfl, .ref h0, .ref h1, rfl, .inl ⟨h0, ws, rfl, S14 _ _ e0, hw, by omega, .inl ⟨rs, goodR S14, fun t2 lf2 ll2 ps2 H15 S15 _ _ ht2 hlf2 hll2 hRs2 => ?_⟩⟩⟩
    have S915 := S14.trans S15
    refine ⟨_, rfl, _, rfl, t2, td, l, ws, rs, rfl, S915 _ _ hl, hw, by omega, by omega, ⟨lf2, ll2, ps2, ht2, hlf2, hll2, hRs2⟩, hT.same S915, fun H16 S16 => ⟨_, rfl, iteF ?_⟩⟩
    have S916 := S915.trans S16
    refine run_next ?_
    dsimp only
    clear S13 S14 S15 hpw npw ht2 hlf2 hll2 hRs2 S915 S16
    -- none
    refine ⟨_, rfl, _, _, _, _, rfl, rfl, SqL.of (S916 _ _ ehh), rfl, by show 0 ≤ sizeLine; decide, fun pe npe => ?_⟩
    have S17 := S916.trans (same_new (o := .lst []) npe)
    have hpe : (upd H16 pe (.lst [])) pe = some (.lst []) := upd_same
    generalize upd H16 pe (.lst []) = H17 at S17 hpe
    refine ⟨.ref h0, .ref pe, rfl, .inl ⟨h0, ws, rfl, S17 _ _ e0, hw, by omega, .inl ⟨[], ⟨pe, [], rfl, hpe, .nil, (fun r hr => (List.not_mem_nil hr).elim), by decide⟩, fun tn lf ll ps0 H18 S18 nd0 fr0 ht hlf hll hRs0 => ?_⟩⟩⟩
    obtain rfl : ps0 = [] := by
      cases hRs0
      rfl
    have flf := fr0 lf List.mem_cons_self
    have fll := fr0 ll (List.mem_cons_of_mem _ List.mem_cons_self)
    have nfl : lf ≠ ll := fun z => (List.nodup_cons.mp nd0).1 (by rw [z]; exact List.mem_cons_self)
    have hlf : H18 lf = some (.lst []) := hlf
    have hll : H18 ll = some (.lst (tx ws)) := hll
    clear nd0 fr0 hRs0
    have S918 := S17.trans S18
    refine ⟨_, rfl, by show 0 ≤ sizeLine; decide, fun p1 np1 => ?_⟩
    have S19 := same_new (o := .lst []) np1
    have hp1 : (upd H18 p1 (.lst [])) p1 = some (.lst []) := upd_same
    generalize upd H18 p1 (.lst []) = H19 at S19 hp1
    refine ⟨_, rfl, by show 2 ≤ sizeLine; decide, fun p2 np2 => ?_⟩
    have S20 := same_new (o := .tup [.ref p1, .ref l]) np2
    have hp2 : (upd H19 p2 (.tup [.ref p1, .ref l])) p2 = some (.tup [.ref p1, .ref l]) := upd_same
    generalize upd H19 p2 (.tup [.ref p1, .ref l]) = H20 at S20 hp2
    have S1820 := S19.trans S20
    have hl20 := (S918.trans S1820) _ _ hl
    refine ⟨tn, p2, 3, true, rfl, rfl, eq_told (gs := []) (left := ws) ⟨lf, ll, [], S1820 _ _ ht, S1820 _ _ hlf, S1820 _ _ hll, .nil⟩ ⟨p1, l, [], hp2, S20 _ _ hp1, hl20, .nil⟩, by decide, _, rfl, iteF ?_⟩
    refine run_next ?_
    dsimp only
    have ht := S1820 _ _ ht
    have hlf := S1820 _ _ hlf
    have hll := S1820 _ _ hll
    have S920 := S918.trans S1820
    have f9lf : H9 lf = none := S17.free flf
    have f9ll : H9 ll = none := S17.free fll
    refine ⟨_, rfl, _, _, _, _, rfl, rfl, SqT.of ht, rfl, .inl ⟨rfl, _, SqL.of hll⟩, ll, _, _, rfl, rfl, hll, by rw [tx_len]; exact Nat.lt_of_le_of_lt (show ws.length ≤ 1000 by omega) (by decide), ?_⟩
    have S21 : Same H9 (upd H20 ll (.lst (tx ws ++ [.str "c"]))) := same_upd S920 f9ll
    have ht21 := (upd_ne (o := .lst (tx ws ++ [.str "c"])) (fun z => by rw [z, hll] at ht; cases ht)).trans ht
    have hlf21 := (upd_ne (o := .lst (tx ws ++ [.str "c"])) nfl).trans hlf
    generalize upd H20 ll (.lst (tx ws ++ [.str "c"])) = H21 at S21 ht21 hlf21
    refine ⟨_, rfl, _, _, _, _, rfl, rfl, SqT.of ht21, rfl, .inl ⟨rfl, _, SqL.of hlf21⟩, by show 0 ≤ sizeLine; decide, fun p3 np3 => ?_⟩
    have S22 := S21.trans (same_new (o := .lst []) np3)
    have hlf22 := same_new (o := .lst []) np3 _ _ hlf21
    generalize upd H21 p3 (.lst []) = H22 at S22 hlf22
    refine ⟨lf, _, _, rfl, rfl, hlf22, by show 0 < sizeLine; decide, ?_⟩
    have S23 : Same H9 (upd H22 lf (.lst ([] ++ [.ref p3]))) := same_upd S22 f9lf
    generalize upd H22 lf (.lst ([] ++ [.ref p3])) = H23 at S23
    clear S22 hlf22 np3 S21 ht21 hlf21 ht hlf hll S920 f9lf f9ll hl20 S1820 hp1 hp2 S19 S20 np1 np2 S918 S18 S17 hpe npe S916 flf fll nfl
    refine ⟨_, rfl, _, rfl, _, rfl, by show 2 ≤ sizeLine; decide, fun pw npw => ?_⟩
    have S24 := S23.trans (same_new (o := .lst [.ref l, .ref lr]) npw)
    have hpw : (upd H23 pw (.lst [.ref l, .ref lr])) pw = some (.lst [.ref l, .ref lr]) := upd_same
    generalize upd H23 pw (.lst [.ref l, .ref lr]) = H24 at S24 hpw
    refine ⟨hh, pw, 3, true, rfl, rfl, eqh S24 hpw, by decide, _, rfl, iteF ?_⟩
    refine ⟨_, rfl, _, _, _, _, rfl, rfl, SqL.of (S24 _ _ ehh), rfl, by show 0 ≤ sizeLine; decide, fun pe npe => ?_⟩
    have S25 := S24.trans (same_new (o := .lst []) npe)
    have hpe : (upd H24 pe (.lst [])) pe = some (.lst []) := upd_same
    generalize upd H24 pe (.lst []) = H25 at S25 hpe
    refine ⟨.ref h0, .ref pe, rfl, .inl ⟨h0, ws, rfl, S25 _ _ e0, hw, by omega, .inl ⟨[], ⟨pe, [], rfl, hpe, .nil, (fun r hr => (List.not_mem_nil hr).elim), by decide⟩, fun t3 lf3 ll3 ps0 H26 S26 nd0 fr0 ht3 hlf3 hll3 hRs0 => ?_⟩⟩⟩
    obtain rfl : ps0 = [] := by
      cases hRs0
      rfl
    have hlf3 : H26 lf3 = some (.lst []) := hlf3
    have hll3 : H26 ll3 = some (.lst (tx ws)) := hll3
    clear nd0 fr0 hRs0
    refine ⟨by show 0 ≤ sizeLine; decide, fun p1 np1 => ?_⟩
    have S27 := same_new (o := .lst []) np1
    have hp1 : (upd H26 p1 (.lst [])) p1 = some (.lst []) := upd_same
    generalize upd H26 p1 (.lst []) = H27 at S27 hp1
    refine ⟨_, rfl, by show 2 ≤ sizeLine; decide, fun p2 np2 => ?_⟩
    have S28 := same_new (o := .tup [.ref p1, .ref l]) np2
    have hp2 : (upd H27 p2 (.tup [.ref p1, .ref l])) p2 = some (.tup [.ref p1, .ref l]) := upd_same
    generalize upd H27 p2 (.tup [.ref p1, .ref l]) = H28 at S28 hp2
    have S2628 := S27.trans S28
    have S928 := S25.trans (S26.trans S2628)
    refine ⟨t3, p2, 3, true, rfl, rfl, eq_told (gs := []) (left := ws) ⟨lf3, ll3, [], S2628 _ _ ht3, S2628 _ _ hlf3, S2628 _ _ hll3, .nil⟩ ⟨p1, l, [], hp2, S28 _ _ hp1, S928 _ _ hl, .nil⟩, by decide, _, rfl, iteF ?_⟩
    refine run_next ?_
    dsimp only
    clear S23 S24 S25 S26 S27 S28 S2628 ht3 hlf3 hll3 hp1 hp2 np1 np2 hpe npe hpw npw
    -- refused
    refine ⟨3, rfl, by decide, by decide, for_range (lo := 0) (n := 3) (fun i σ H4 => ∃ o9 o10 o11 o12 o13 : Option V, σ = [some (.ref a), some (.int (c0 % 2)), some (.ref l), some (.ref lr), some (.ref td), some (.ref hh), some (.ref t), some (.int (k : Int)), some (.ref tn), o9, o10, o11, o12, o13] ∧ Same H28 H4) ⟨none, none, none, none, none, rfl, Same.refl _⟩ ?_ ?_⟩
    · rintro i σ H4 hi ⟨o9, o10, o11, o12, o13, rfl, S4⟩
      refine run_gname ?_
      rw [show (0 : Int) + (i : Int) = (i : Int) from Int.zero_add _]
      have S94 := S928.trans S4
      refine ⟨_, rfl, _, rfl, _, _, rfl, rfl, _, _, _, a, _, rfl, rfl, rfl, by decide, rfl, (S0.trans S94).seq hS, fun zs pz hz _ npz => ?_⟩
      obtain ⟨ks, rfl⟩ := ints_of hz
      have Sz := S4.trans (same_new (o := .lst (ks.map V.int)) npz)
      refine ⟨pz, ks, rfl, SqL.of upd_same, ?_⟩
      generalize upd H4 pz (.lst (ks.map V.int)) = H5 at Sz
      refine ⟨_, rfl, _, _, rfl, rfl, (by show (0 : Int) < 2; decide), _, rfl, by show 3 ≤ sizeLine; decide, fun pd npd => ?_⟩
      have fpd : H28 pd = none := Sz.free npd
      have S6 := Sz.trans (same_new (o := .lst [.int ks.sum, .int ((i : Int) % 2), .int (i : Int)]) npd)
      have hpd : (upd H5 pd (.lst [.int ks.sum, .int ((i : Int) % 2), .int (i : Int)])) pd = some (deck ks.sum ((i : Int) % 2) (i : Int)) := upd_same
      generalize upd H5 pd (.lst [.int ks.sum, .int ((i : Int) % 2), .int (i : Int)]) = H6 at S6 hpd
      have hl6 := (S928.trans S6) _ _ hl
      refine ⟨_, rfl, _, rfl, l, pd, ws, _, _, _, rfl, hl6, hw, by omega, hpd, by omega, by omega, fun x H7 a7 c7 B7 hpd7 z0 z1 bad => ?_⟩
      have S7 : Same H28 H7 := But.same S6 B7 fpd
      have S97 := S928.trans S7
      have hlr7 := S97 _ _ hlr
      have lpd : lr ≠ pd := fun z => by
        have := S928 _ _ hlr
        rw [z, fpd] at this
        cases this
      refine ⟨_, rfl, _, rfl, lr, pd, xr, rs, _, _, _, rfl, hlr7, hA.same S97, ok, by omega, lpd, hpd7, z0, by omega, fun y H8 a8 c8 B8 hpd8 badR => ?_⟩
      have S8 : Same H28 H8 := But.same S7 B8 fpd
      have S98 := S928.trans S8
      have bad := bad H8 B8
      refine ⟨_, rfl, _, rfl, by show 2 ≤ sizeLine; decide, fun po npo => ?_⟩
      have S9 := same_new (o := .lst [.ref lr, y]) npo
      have hpo : (upd H8 po (.lst [.ref lr, y])) po = some (.lst [.ref lr, y]) := upd_same
      generalize upd H8 po (.lst [.ref lr, y]) = H9' at S9 hpo
      refine ⟨po, rfl, ⟨_, SqL.of hpo⟩, for_list (K := K) (a := po) (xs := [.ref lr, y]) (fun j σ H4 => ∃ o13 : Option V, σ = [some (.ref a), some (.int (c0 % 2)), some (.ref l), some (.ref lr), some (.ref td), some (.ref hh), some (.ref t), some (.int (k : Int)), some (.ref tn), some (.int (i : Int)), some (.ref pd), some x, some y, o13] ∧ Same H9' H4) ⟨o13, rfl, Same.refl _⟩
        (fun j σ H4 _ ⟨_, _, S⟩ => SqL.of (S _ _ hpo)) ?_ ?_⟩
      · rintro j z σ H4 hz ⟨o13, rfl, S4⟩
        refine run_gname ?_
        refine ⟨_, rfl, _, rfl, x, z, true, rfl, .inl ⟨rfl, (bad.same S9).same S4⟩, fun lq H10 S10 hlq => ?_⟩
        refine ⟨by show 4 ≤ sizeLine; decide, fun pq npq => ?_⟩
        have S11 := same_new (o := .lst [.bl true, .bl false, .bl true, .bl false]) npq
        refine ⟨lq, pq, 1, true, rfl, rfl, eq_bls (bs := [true, false, true, false]) (S11 _ _ hlq) upd_same, by decide, _, rfl, iteF ?_⟩
        exact ⟨_, rfl, S4.trans (S10.trans S11)⟩
      · rintro σ H4 ⟨o13, rfl, S4⟩
        have S84 := S9.trans S4
        have S94 := S98.trans S84
        refine ⟨_, rfl, _, rfl, .ref l, y, false, rfl, .inr ⟨rfl, ⟨l, ws, rfl, S94 _ _ hl, hw, by omega⟩, badR.same S84⟩, fun lq H10 S10 hlq => ?_⟩
        refine ⟨by show 4 ≤ sizeLine; decide, fun pq npq => ?_⟩
        have S11 := same_new (o := .lst [.bl false, .bl true, .bl true, .bl false]) npq
        refine ⟨lq, pq, 1, true, rfl, rfl, eq_bls (bs := [false, true, true, false]) (S11 _ _ hlq) upd_same, by decide, _, rfl, iteF ?_⟩
        exact ⟨_, _, _, _, _, rfl, S8.trans (S84.trans (S10.trans S11))⟩
    · rintro σ H4 ⟨o9, o10, o11, o12, o13, rfl, S4⟩
      exact q _
end
end KS
set_option Elab.async false
set_option linter.all false
set_option maxRecDepth 100000
namespace L2
open PySem PySem.Spec PyProof.Rows
end L2
set_option Elab.async false
set_option linter.all false
set_option maxRecDepth 100000
set_option maxHeartbeats 4000000
namespace KS
open PySem L2
theorem all_mk {l : PySem.W.OpenLaw} {w : World} {K : PySem.W.Frag} {h : Heap} {mg : Str → Option Value} {fa  f0 f1 f2 f3 f4 f5 f6 f7 f8 f9 f10 f11 f12 f13 f14 f15 f16 f17 f18 f19 f20 f21 f22 C0 C1 C2 C3 C4 C5 C6 C7 C8 C9 : Addr} (X : K.In h) (G : h.Ns mainGlobals mg) (hfa : mg "law" = some (.ref fa)) 
    {od0 od1 od2 od3 od4 od5 od6 od7 od8 od9 od10 od11 od12 od13 od14 od15 od16 od17 od18 od19 od20 od21 od22 an0 an1 an2 an3 an4 an5 an6 an7 an8 an9 an10 an11 an12 an13 an14 an15 an16 an17 an18 an19 an20 an21 an22 : Option Addr} {sl0 sl1 sl2 sl3 sl4 sl5 sl6 sl7 sl8 sl9 sl10 sl11 sl12 sl13 sl14 sl15 sl16 sl17 sl18 sl19 sl20 sl21 sl22 : Array (Option Value)} {oc0 kV0 dc0 pm0 cd0 ct0 oc1 kV1 dc1 pm1 cd1 ct1 oc2 kV2 dc2 pm2 cd2 ct2 oc3 kV3 dc3 pm3 cd3 ct3 oc4 kV4 dc4 pm4 cd4 ct4 oc5 kV5 dc5 pm5 cd5 ct5 oc6 kV6 dc6 pm6 cd6 ct6 oc7 kV7 dc7 pm7 cd7 ct7 oc8 kV8 dc8 pm8 cd8 ct8 oc9 kV9 dc9 pm9 cd9 ct9 oc10 kV10 dc10 pm10 cd10 ct10 oc11 kV11 dc11 pm11 cd11 ct11 oc12 kV12 dc12 pm12 cd12 ct12 oc13 kV13 dc13 pm13 cd13 ct13 oc14 kV14 dc14 pm14 cd14 ct14 oc15 kV15 dc15 pm15 cd15 ct15 oc16 kV16 dc16 pm16 cd16 ct16 oc17 kV17 dc17 pm17 cd17 ct17 oc18 kV18 dc18 pm18 cd18 ct18 oc19 kV19 dc19 pm19 cd19 ct19 oc20 kV20 dc20 pm20 cd20 ct20 oc21 kV21 dc21 pm21 cd21 ct21 oc22 kV22 dc22 pm22 cd22 ct22 : Value} {t_LEFT_OUT t_MOST_SIGNS : Tok}
    (a0 : PySem.W.nsIn K mainGlobals "is_sign" = some (some (.ref f0)))
    (l0 : K.lookup f0 = some ⟨oc0, od0, .func (PySem.W.fnOf "is_sign" "is_sign" (defArgs sSign) (defBody sSign) (defScope sSign) .none kV0 dc0 pm0 an0 cd0 ct0), sl0⟩)
    (c0 : PySem.W.codeIn K cd0 "is_sign" = true)
    (k0 : PySem.W.keepIn K (.ref f0) = true)
    (a1 : PySem.W.nsIn K mainGlobals "is_word" = some (some (.ref f1)))
    (l1 : K.lookup f1 = some ⟨oc1, od1, .func (PySem.W.fnOf "is_word" "is_word" (defArgs sWord) (defBody sWord) (defScope sWord) .none kV1 dc1 pm1 an1 cd1 ct1), sl1⟩)
    (c1 : PySem.W.codeIn K cd1 "is_word" = true)
    (k1 : PySem.W.keepIn K (.ref f1) = true)
    (a2 : PySem.W.nsIn K mainGlobals "are_words" = some (some (.ref f2)))
    (l2 : K.lookup f2 = some ⟨oc2, od2, .func (PySem.W.fnOf "are_words" "are_words" (defArgs sAre) (defBody sAre) (defScope sAre) .none kV2 dc2 pm2 an2 cd2 ct2), sl2⟩)
    (c2 : PySem.W.codeIn K cd2 "are_words" = true)
    (k2 : PySem.W.keepIn K (.ref f2) = true)
    (a3 : PySem.W.nsIn K mainGlobals "refuse_no_words" = some (some (.ref f3)))
    (l3 : K.lookup f3 = some ⟨oc3, od3, .func (PySem.W.fnOf "refuse_no_words" "refuse_no_words" (defArgs sRefuse) (defBody sRefuse) (defScope sRefuse) .none kV3 dc3 pm3 an3 cd3 ct3), sl3⟩)
    (c3 : PySem.W.codeIn K cd3 "refuse_no_words" = true)
    (k3 : PySem.W.keepIn K (.ref f3) = true)
    (a4 : PySem.W.nsIn K mainGlobals "taken" = some (some (.ref f4)))
    (l4 : K.lookup f4 = some ⟨oc4, od4, .func (PySem.W.fnOf "taken" "taken" (defArgs sTaken) (defBody sTaken) (defScope sTaken) .none kV4 dc4 pm4 an4 cd4 ct4), sl4⟩)
    (c4 : PySem.W.codeIn K cd4 "taken" = true)
    (k4 : PySem.W.keepIn K (.ref f4) = true)
    (a5 : PySem.W.nsIn K mainGlobals "is_whole" = some (some (.ref f5)))
    (l5 : K.lookup f5 = some ⟨oc5, od5, .func (PySem.W.fnOf "is_whole" "is_whole" (defArgs sWhole) (defBody sWhole) (defScope sWhole) .none kV5 dc5 pm5 an5 cd5 ct5), sl5⟩)
    (c5 : PySem.W.codeIn K cd5 "is_whole" = true)
    (k5 : PySem.W.keepIn K (.ref f5) = true)
    (a6 : PySem.W.nsIn K mainGlobals "is_length" = some (some (.ref f6)))
    (l6 : K.lookup f6 = some ⟨oc6, od6, .func (PySem.W.fnOf "is_length" "is_length" (defArgs sLength) (defBody sLength) (defScope sLength) .none kV6 dc6 pm6 an6 cd6 ct6), sl6⟩)
    (c6 : PySem.W.codeIn K cd6 "is_length" = true)
    (k6 : PySem.W.keepIn K (.ref f6) = true)
    (a7 : PySem.W.nsIn K mainGlobals "is_room" = some (some (.ref f7)))
    (l7 : K.lookup f7 = some ⟨oc7, od7, .func (PySem.W.fnOf "is_room" "is_room" (defArgs sRoom) (defBody sRoom) (defScope sRoom) .none kV7 dc7 pm7 an7 cd7 ct7), sl7⟩)
    (c7 : PySem.W.codeIn K cd7 "is_room" = true)
    (k7 : PySem.W.keepIn K (.ref f7) = true)
    (a8 : PySem.W.nsIn K mainGlobals "refuse_no_rooms" = some (some (.ref f8)))
    (l8 : K.lookup f8 = some ⟨oc8, od8, .func (PySem.W.fnOf "refuse_no_rooms" "refuse_no_rooms" (defArgs sRefR) (defBody sRefR) (defScope sRefR) .none kV8 dc8 pm8 an8 cd8 ct8), sl8⟩)
    (c8 : PySem.W.codeIn K cd8 "refuse_no_rooms" = true)
    (k8 : PySem.W.keepIn K (.ref f8) = true)
    (a9 : PySem.W.nsIn K mainGlobals "narrow_ones" = some (some (.ref f9)))
    (l9 : K.lookup f9 = some ⟨oc9, od9, .func (PySem.W.fnOf "narrow_ones" "narrow_ones" (defArgs sNar) (defBody sNar) (defScope sNar) .none kV9 dc9 pm9 an9 cd9 ct9), sl9⟩)
    (c9 : PySem.W.codeIn K cd9 "narrow_ones" = true)
    (k9 : PySem.W.keepIn K (.ref f9) = true)
    (a10 : PySem.W.nsIn K mainGlobals "words_on" = some (some (.ref f10)))
    (l10 : K.lookup f10 = some ⟨oc10, od10, .func (PySem.W.fnOf "words_on" "words_on" (defArgs sOn) (defBody sOn) (defScope sOn) .none kV10 dc10 pm10 an10 cd10 ct10), sl10⟩)
    (c10 : PySem.W.codeIn K cd10 "words_on" = true)
    (k10 : PySem.W.keepIn K (.ref f10) = true)
    (a11 : PySem.W.nsIn K mainGlobals "poured" = some (some (.ref f11)))
    (l11 : K.lookup f11 = some ⟨oc11, od11, .func (PySem.W.fnOf "poured" "poured" (defArgs sPour) (defBody sPour) (defScope sPour) .none kV11 dc11 pm11 an11 cd11 ct11), sl11⟩)
    (c11 : PySem.W.codeIn K cd11 "poured" = true)
    (k11 : PySem.W.keepIn K (.ref f11) = true)
    (a12 : PySem.W.nsIn K mainGlobals "_law_cell_at" = some (some (.ref f12)))
    (l12 : K.lookup f12 = some ⟨oc12, od12, .func (PySem.W.fnOf "_law_cell_at" "_law_cell_at" (defArgs sCellAt) (defBody sCellAt) (defScope sCellAt) .none kV12 dc12 pm12 an12 cd12 ct12), sl12⟩)
    (c12 : PySem.W.codeIn K cd12 "_law_cell_at" = true)
    (k12 : PySem.W.keepIn K (.ref f12) = true)
    (a13 : PySem.W.nsIn K mainGlobals "_law_take" = some (some (.ref f13)))
    (l13 : K.lookup f13 = some ⟨oc13, od13, .func (PySem.W.fnOf "_law_take" "_law_take" (defArgs sTake) (defBody sTake) (defScope sTake) .none kV13 dc13 pm13 an13 cd13 ct13), sl13⟩)
    (c13 : PySem.W.codeIn K cd13 "_law_take" = true)
    (k13 : PySem.W.keepIn K (.ref f13) = true)
    (a14 : PySem.W.nsIn K mainGlobals "_law_word" = some (some (.ref f14)))
    (l14 : K.lookup f14 = some ⟨oc14, od14, .func (PySem.W.fnOf "_law_word" "_law_word" (defArgs sLw) (defBody sLw) (defScope sLw) .none kV14 dc14 pm14 an14 cd14 ct14), sl14⟩)
    (c14 : PySem.W.codeIn K cd14 "_law_word" = true)
    (k14 : PySem.W.keepIn K (.ref f14) = true)
    (a15 : PySem.W.nsIn K mainGlobals "_law_bad_words" = some (some (.ref f15)))
    (l15 : K.lookup f15 = some ⟨oc15, od15, .func (PySem.W.fnOf "_law_bad_words" "_law_bad_words" (defArgs sBad) (defBody sBad) (defScope sBad) .none kV15 dc15 pm15 an15 cd15 ct15), sl15⟩)
    (c15 : PySem.W.codeIn K cd15 "_law_bad_words" = true)
    (k15 : PySem.W.keepIn K (.ref f15) = true)
    (a16 : PySem.W.nsIn K mainGlobals "_law_rooms" = some (some (.ref f16)))
    (l16 : K.lookup f16 = some ⟨oc16, od16, .func (PySem.W.fnOf "_law_rooms" "_law_rooms" (defArgs sRooms) (defBody sRooms) (defScope sRooms) .none kV16 dc16 pm16 an16 cd16 ct16), sl16⟩)
    (c16 : PySem.W.codeIn K cd16 "_law_rooms" = true)
    (k16 : PySem.W.keepIn K (.ref f16) = true)
    (a17 : PySem.W.nsIn K mainGlobals "_law_bad_rooms" = some (some (.ref f17)))
    (l17 : K.lookup f17 = some ⟨oc17, od17, .func (PySem.W.fnOf "_law_bad_rooms" "_law_bad_rooms" (defArgs sBadR) (defBody sBadR) (defScope sBadR) .none kV17 dc17 pm17 an17 cd17 ct17), sl17⟩)
    (c17 : PySem.W.codeIn K cd17 "_law_bad_rooms" = true)
    (k17 : PySem.W.keepIn K (.ref f17) = true)
    (a18 : PySem.W.nsIn K mainGlobals "_law_due" = some (some (.ref f18)))
    (l18 : K.lookup f18 = some ⟨oc18, od18, .func (PySem.W.fnOf "_law_due" "_law_due" (defArgs sDue) (defBody sDue) (defScope sDue) .none kV18 dc18 pm18 an18 cd18 ct18), sl18⟩)
    (c18 : PySem.W.codeIn K cd18 "_law_due" = true)
    (k18 : PySem.W.keepIn K (.ref f18) = true)
    (a19 : PySem.W.nsIn K mainGlobals "_law_told" = some (some (.ref f19)))
    (l19 : K.lookup f19 = some ⟨oc19, od19, .func (PySem.W.fnOf "_law_told" "_law_told" (defArgs sTold) (defBody sTold) (defScope sTold) .none kV19 dc19 pm19 an19 cd19 ct19), sl19⟩)
    (c19 : PySem.W.codeIn K cd19 "_law_told" = true)
    (k19 : PySem.W.keepIn K (.ref f19) = true)
    (a20 : PySem.W.nsIn K mainGlobals "_law_apart" = some (some (.ref f20)))
    (l20 : K.lookup f20 = some ⟨oc20, od20, .func (PySem.W.fnOf "_law_apart" "_law_apart" (defArgs sApart) (defBody sApart) (defScope sApart) .none kV20 dc20 pm20 an20 cd20 ct20), sl20⟩)
    (c20 : PySem.W.codeIn K cd20 "_law_apart" = true)
    (k20 : PySem.W.keepIn K (.ref f20) = true)
    (a21 : PySem.W.nsIn K mainGlobals "_law_refused" = some (some (.ref f21)))
    (l21 : K.lookup f21 = some ⟨oc21, od21, .func (PySem.W.fnOf "_law_refused" "_law_refused" (defArgs sRef) (defBody sRef) (defScope sRef) .none kV21 dc21 pm21 an21 cd21 ct21), sl21⟩)
    (c21 : PySem.W.codeIn K cd21 "_law_refused" = true)
    (k21 : PySem.W.keepIn K (.ref f21) = true)
    (a22 : PySem.W.nsIn K mainGlobals "law" = some (some (.ref f22)))
    (l22 : K.lookup f22 = some ⟨oc22, od22, .func (PySem.W.fnOf "law" "law" (defArgs sLaw) (defBody sLaw) (defScope sLaw) .none kV22 dc22 pm22 an22 cd22 ct22), sl22⟩)
    (c22 : PySem.W.codeIn K cd22 "law" = true)
    (k22 : PySem.W.keepIn K (.ref f22) = true)
    (C0m : PySem.W.nsIn K mainGlobals "PartError" = some (some (.ref C0)))
    (C1m : PySem.W.nsIn K mainGlobals "NoPage" = some (some (.ref C1)))
    (C2m : PySem.W.nsIn K mainGlobals "NoPicture" = some (some (.ref C2)))
    (C3m : PySem.W.nsIn K mainGlobals "NoPlace" = some (some (.ref C3)))
    (C4m : PySem.W.nsIn K mainGlobals "NoTree" = some (some (.ref C4)))
    (C5m : PySem.W.nsIn K mainGlobals "NoNeeds" = some (some (.ref C5)))
    (C6m : PySem.W.nsIn K mainGlobals "NoTexts" = some (some (.ref C6)))
    (C7m : PySem.W.nsIn K mainGlobals "NoRoom" = some (some (.ref C7)))
    (C8m : PySem.W.nsIn K mainGlobals "NoRow" = some (some (.ref C8)))
    (C9m : PySem.W.nsIn K mainGlobals "NoNumber" = some (some (.ref C9)))
    (z_len : PySem.W.nsIn K mainGlobals "len" = some none)
    (z_range : PySem.W.nsIn K mainGlobals "range" = some none)
    (z_sum : PySem.W.nsIn K mainGlobals "sum" = some none)
    (z_isinstance : PySem.W.nsIn K mainGlobals "isinstance" = some none)
    (z_tuple : PySem.W.nsIn K mainGlobals "tuple" = some none)
    (z_str : PySem.W.nsIn K mainGlobals "str" = some none)
    (z_list : PySem.W.nsIn K mainGlobals "list" = some none)
    (z_int : PySem.W.nsIn K mainGlobals "int" = some none)
    (z_bool : PySem.W.nsIn K mainGlobals "bool" = some none)
    (z_all : PySem.W.nsIn K mainGlobals "all" = some none)
    (z_any : PySem.W.nsIn K mainGlobals "any" = some none)
    (z_ord : PySem.W.nsIn K mainGlobals "ord" = some none)
    (z_enumerate : PySem.W.nsIn K mainGlobals "enumerate" = some none)
    (z_ValueError : PySem.W.nsIn K mainGlobals "ValueError" = some none)
    (g_LEFT_OUT : PySem.W.nsIn K mainGlobals "LEFT_OUT" = some (some (.int 37 t_LEFT_OUT)))
    (g_MOST_SIGNS : PySem.W.nsIn K mainGlobals "MOST_SIGNS" = some (some (.int 12 t_MOST_SIGNS)))
    (ex5 : PySem.W.excIn K C5 [.type "ValueError", .type "Exception", .type "BaseException", .type "object"] "ValueError.__new__" = true)
    (ex6 : PySem.W.excIn K C6 [.type "ValueError", .type "Exception", .type "BaseException", .type "object"] "ValueError.__new__" = true)
    (e0a : PySem.W.findIn K (.ref C0) "__getattribute__" = some (some (.builtin "BaseException.__getattribute__")))
    (e0b : PySem.W.findIn K (.ref C0) "__getattr__" = some none)
    (e0c : PySem.W.findIn K (.ref C0) "__class__" = some (some (.builtin "object.__class__")))
    (e0f : PySem.W.mroIn K C0 (.type "object") = some true)
    (e0g : PySem.W.mroIn K C0 (.type "BaseException") = some true)
    (e0h : PySem.W.typeIn K (.ref C0) = some (.type "type"))
    (e0i : (PySem.W.clsIn K C0).isSome = true)
    (e5a : PySem.W.findIn K (.ref C5) "__getattribute__" = some (some (.builtin "BaseException.__getattribute__")))
    (e5b : PySem.W.findIn K (.ref C5) "__getattr__" = some none)
    (e5c : PySem.W.findIn K (.ref C5) "__class__" = some (some (.builtin "object.__class__")))
    (e5f : PySem.W.mroIn K C5 (.type "object") = some true)
    (e5g : PySem.W.mroIn K C5 (.type "BaseException") = some true)
    (e5h : PySem.W.typeIn K (.ref C5) = some (.type "type"))
    (e5i : (PySem.W.clsIn K C5).isSome = true)
    (e6a : PySem.W.findIn K (.ref C6) "__getattribute__" = some (some (.builtin "BaseException.__getattribute__")))
    (e6b : PySem.W.findIn K (.ref C6) "__getattr__" = some none)
    (e6c : PySem.W.findIn K (.ref C6) "__class__" = some (some (.builtin "object.__class__")))
    (e6f : PySem.W.mroIn K C6 (.type "object") = some true)
    (e6g : PySem.W.mroIn K C6 (.type "BaseException") = some true)
    (e6h : PySem.W.typeIn K (.ref C6) = some (.type "type"))
    (e6i : (PySem.W.clsIn K C6).isSome = true)
    (ed : PySem.W.specialIn K (.builtin "object.__class__") "__get__" = some (some (.builtin "getset_descriptor.__get__")))
    (ee : PySem.W.takesIn K (.builtin "object.__class__") = some true)
    (kt0 : PySem.W.kitOne K (.type "NoneType") (.type "str") = some false)
    (kt1 : PySem.W.kitOne K (.type "bool") (.type "str") = some false)
    (kt2 : PySem.W.kitOne K (.type "int") (.type "str") = some false)
    (kt3 : PySem.W.kitOne K (.type "list") (.type "str") = some false)
    (kt4 : PySem.W.kitOne K (.type "tuple") (.type "str") = some false)
    (kt5 : PySem.W.kitOne K (.type "dict") (.type "str") = some false)
    (kt6 : PySem.W.kitOne K (.type "NoneType") (.type "list") = some false)
    (kt7 : PySem.W.kitOne K (.type "str") (.type "list") = some false)
    (kt8 : PySem.W.kitOne K (.type "int") (.type "list") = some false)
    (kt9 : PySem.W.kitOne K (.type "tuple") (.type "list") = some false)
    (kt10 : PySem.W.kitOne K (.type "dict") (.type "list") = some false)
    (q_int0 : PySem.W.kitOne K (.type "NoneType") (.type "int") = some false)
    (q_int1 : PySem.W.kitOne K (.type "bool") (.type "int") = some true)
    (q_int2 : PySem.W.kitOne K (.type "int") (.type "int") = some true)
    (q_int3 : PySem.W.kitOne K (.type "str") (.type "int") = some false)
    (q_int4 : PySem.W.kitOne K (.type "tuple") (.type "int") = some false)
    (q_int5 : PySem.W.kitOne K (.type "list") (.type "int") = some false)
    (q_int6 : PySem.W.kitOne K (.type "dict") (.type "int") = some false)
    (q_bool0 : PySem.W.kitOne K (.type "NoneType") (.type "bool") = some false)
    (q_bool1 : PySem.W.kitOne K (.type "bool") (.type "bool") = some true)
    (q_bool2 : PySem.W.kitOne K (.type "int") (.type "bool") = some false)
    (q_bool3 : PySem.W.kitOne K (.type "str") (.type "bool") = some false)
    (q_bool4 : PySem.W.kitOne K (.type "tuple") (.type "bool") = some false)
    (q_bool5 : PySem.W.kitOne K (.type "list") (.type "bool") = some false)
    (q_bool6 : PySem.W.kitOne K (.type "dict") (.type "bool") = some false)
    (q_tuple0 : PySem.W.kitOne K (.type "NoneType") (.type "tuple") = some false)
    (q_tuple1 : PySem.W.kitOne K (.type "bool") (.type "tuple") = some false)
    (q_tuple2 : PySem.W.kitOne K (.type "int") (.type "tuple") = some false)
    (q_tuple3 : PySem.W.kitOne K (.type "str") (.type "tuple") = some false)
    (q_tuple4 : PySem.W.kitOne K (.type "tuple") (.type "tuple") = some true)
    (q_tuple5 : PySem.W.kitOne K (.type "list") (.type "tuple") = some false)
    (q_tuple6 : PySem.W.kitOne K (.type "dict") (.type "tuple") = some false)
    (q_list0 : PySem.W.kitOne K (.type "NoneType") (.type "list") = some false)
    (q_list1 : PySem.W.kitOne K (.type "bool") (.type "list") = some false)
    (q_list2 : PySem.W.kitOne K (.type "int") (.type "list") = some false)
    (q_list3 : PySem.W.kitOne K (.type "str") (.type "list") = some false)
    (q_list4 : PySem.W.kitOne K (.type "tuple") (.type "list") = some false)
    (q_list5 : PySem.W.kitOne K (.type "list") (.type "list") = some true)
    (q_list6 : PySem.W.kitOne K (.type "dict") (.type "list") = some false)
    (up6 : PySem.W.mroIn K C6 (.ref C0) = some true)
    (qT6 : PySem.W.kitOne K (.ref C6) (.ref C6) = some true)
    (qN6 : PySem.W.kitOne K (.ref C6) (.ref C5) = some false)
    (qv6 : PySem.W.kitOne K (.ref C6) (.type "ValueError") = some true)
    (qA6 : PySem.W.kitAny K (.ref C6) [.ref C9, .ref C1, .ref C2, .ref C3, .ref C7, .ref C8, .ref C4] = some false)
    (up5 : PySem.W.mroIn K C5 (.ref C0) = some true)
    (qT5 : PySem.W.kitOne K (.ref C5) (.ref C6) = some false)
    (qN5 : PySem.W.kitOne K (.ref C5) (.ref C5) = some true)
    (qv5 : PySem.W.kitOne K (.ref C5) (.type "ValueError") = some true)
    (qA5 : PySem.W.kitAny K (.ref C5) [.ref C9, .ref C1, .ref C2, .ref C3, .ref C7, .ref C8, .ref C4] = some false) :
    ∃ fd : FuncData, (∀ (s : Shared) (v : Value), BindsTo s fd ⟨[v], []⟩ [("script", v)]) ∧ ∀ base : Heap, K.In base → base.Ns mainGlobals mg → FnOk l.prog w K mg base CX0 7 fa fd ["script"] (spLaw K) := by
  have e := hfa.symm.trans (PySem.W.mg_of X G a22)
  cases e
  have F0 := fun_mk (st := sSign) l0 c0 k0
  have F1 := fun_mk (st := sWord) l1 c1 k1
  have F2 := fun_mk (st := sAre) l2 c2 k2
  have F3 := fun_mk (st := sRefuse) l3 c3 k3
  have F4 := fun_mk (st := sTaken) l4 c4 k4
  have F5 := fun_mk (st := sWhole) l5 c5 k5
  have F6 := fun_mk (st := sLength) l6 c6 k6
  have F7 := fun_mk (st := sRoom) l7 c7 k7
  have F8 := fun_mk (st := sRefR) l8 c8 k8
  have F9 := fun_mk (st := sNar) l9 c9 k9
  have F10 := fun_mk (st := sOn) l10 c10 k10
  have F11 := fun_mk (st := sPour) l11 c11 k11
  have F12 := fun_mk (st := sCellAt) l12 c12 k12
  have F13 := fun_mk (st := sTake) l13 c13 k13
  have F14 := fun_mk (st := sLw) l14 c14 k14
  have F15 := fun_mk (st := sBad) l15 c15 k15
  have F16 := fun_mk (st := sRooms) l16 c16 k16
  have F17 := fun_mk (st := sBadR) l17 c17 k17
  have F18 := fun_mk (st := sDue) l18 c18 k18
  have F19 := fun_mk (st := sTold) l19 c19 k19
  have F20 := fun_mk (st := sApart) l20 c20 k20
  have F21 := fun_mk (st := sRef) l21 c21 k21
  have F22 := fun_mk (st := sLaw) l22 c22 k22
  have xc0 : ExcCls K C0 := ⟨e0a, e0b, e0c, ed, ee, e0f, e0g, e0h, e0i⟩
  have xc5 : ExcCls K C5 := ⟨e5a, e5b, e5c, ed, ee, e5f, e5g, e5h, e5i⟩
  have xc6 : ExcCls K C6 := ⟨e6a, e6b, e6c, ed, ee, e6f, e6g, e6h, e6i⟩
  have Z : Nm K mg := ⟨⟨_, PySem.W.mg_of X G g_LEFT_OUT⟩, ⟨_, PySem.W.mg_of X G g_MOST_SIGNS⟩, (PySem.W.mg_none_of X G z_isinstance), (PySem.W.mg_none_of X G z_str), (PySem.W.mg_none_of X G z_list), (PySem.W.mg_none_of X G z_len), (PySem.W.mg_none_of X G z_all), (PySem.W.mg_none_of X G z_any), (PySem.W.mg_none_of X G z_ord), kt0, kt1, kt2, kt3, kt4, kt5, kt6, kt7, kt8, kt9, kt10⟩
  have Zr : Nr K mg := ⟨(PySem.W.mg_none_of X G z_isinstance), (PySem.W.mg_none_of X G z_int), (PySem.W.mg_none_of X G z_bool), (PySem.W.mg_none_of X G z_tuple), (PySem.W.mg_none_of X G z_list), (PySem.W.mg_none_of X G z_len), (PySem.W.mg_none_of X G z_all), (PySem.W.mg_none_of X G z_any), (PySem.W.mg_none_of X G z_sum), (PySem.W.mg_none_of X G z_enumerate), (fun t => by cases t; exact q_int0; exact q_int1; exact q_int2; exact q_int3; exact q_int4; exact q_int5; exact q_int6), (fun t => by cases t; exact q_bool0; exact q_bool1; exact q_bool2; exact q_bool3; exact q_bool4; exact q_bool5; exact q_bool6), (fun t => by cases t; exact q_tuple0; exact q_tuple1; exact q_tuple2; exact q_tuple3; exact q_tuple4; exact q_tuple5; exact q_tuple6), (fun t => by cases t; exact q_list0; exact q_list1; exact q_list2; exact q_list3; exact q_list4; exact q_list5; exact q_list6)⟩
  have ZK : Kinds K mg C0 C1 C2 C3 C4 C5 C6 C7 C8 C9 := ⟨PySem.W.mg_of X G C0m, PySem.W.mg_of X G C1m, PySem.W.mg_of X G C2m, PySem.W.mg_of X G C3m, PySem.W.mg_of X G C4m, PySem.W.mg_of X G C5m, PySem.W.mg_of X G C6m, PySem.W.mg_of X G C7m, PySem.W.mg_of X G C8m, PySem.W.mg_of X G C9m, (PySem.W.mg_none_of X G z_ValueError), xc0, ⟨xc6, up6, qT6, qN6, qv6, qA6⟩, ⟨xc5, up5, qT5, qN5, qv5, qA5⟩⟩
  refine ⟨PySem.W.fnOf "law" "law" (defArgs sLaw) (defBody sLaw) (defScope sLaw) .none kV22 dc22 pm22 an22 cd22 ct22, fun s v => .of_eq rfl, fun base B _ => ?_⟩
  have Y0 : Callee l.prog w K mg base CX0 1 "is_sign" f0 _ ["sign"] spSign := ⟨ok_sign F0 Z, PySem.W.mg_of X G a0, k0, F0.binds fun _ _ _ _ _ _ us hl => match us, hl with | [_], _ => rfl⟩
  have Y1 : Callee l.prog w K mg base CX0 2 "is_word" f1 _ ["thing"] spWord := ⟨ok_word F1 Z Y0, PySem.W.mg_of X G a1, k1, F1.binds fun _ _ _ _ _ _ us hl => match us, hl with | [_], _ => rfl⟩
  have Y2 : Callee l.prog w K mg base CX0 3 "are_words" f2 _ ["things"] spAre := ⟨ok_are F2 Z Y1, PySem.W.mg_of X G a2, k2, F2.binds fun _ _ _ _ _ _ us hl => match us, hl with | [_], _ => rfl⟩
  have Y3 : Callee l.prog w K mg base (CXE l.prog w) 4 "refuse_no_words" f3 _ ["things"] (spRefuse C6) := ⟨ok_refuse F3 ⟨PySem.W.mg_of X G C6m, ex6⟩ Y2, PySem.W.mg_of X G a3, k3, F3.binds fun _ _ _ _ _ _ us hl => match us, hl with | [_], _ => rfl⟩
  have Y4 : Callee l.prog w K mg base CX0 1 "taken" f4 _ ["words", "wide"] spTaken := ⟨ok_taken F4 (PySem.W.mg_none_of X G z_len), PySem.W.mg_of X G a4, k4, F4.binds fun _ _ _ _ _ _ us hl => match us, hl with | [_, _], _ => rfl⟩
  have Y5 : Callee l.prog w K mg base CX0 1 "is_whole" f5 _ ["thing"] spWhole := ⟨ok_whole F5 Zr, PySem.W.mg_of X G a5, k5, F5.binds fun _ _ _ _ _ _ us hl => match us, hl with | [_], _ => rfl⟩
  have Y6 : Callee l.prog w K mg base CX0 2 "is_length" f6 _ ["thing"] spLength := ⟨ok_length F6 Y5, PySem.W.mg_of X G a6, k6, F6.binds fun _ _ _ _ _ _ us hl => match us, hl with | [_], _ => rfl⟩
  have Y7 : Callee l.prog w K mg base CX0 3 "is_room" f7 _ ["thing"] spRoom := ⟨ok_room F7 Zr Y6, PySem.W.mg_of X G a7, k7, F7.binds fun _ _ _ _ _ _ us hl => match us, hl with | [_], _ => rfl⟩
  have Y8 : Callee l.prog w K mg base (CXE l.prog w) 4 "refuse_no_rooms" f8 _ ["things"] (spRefR C5) := ⟨ok_refR F8 Zr ⟨PySem.W.mg_of X G C5m, ex5⟩ Y7, PySem.W.mg_of X G a8, k8, F8.binds fun _ _ _ _ _ _ us hl => match us, hl with | [_], _ => rfl⟩
  have Y9 : Callee l.prog w K mg base CX0 1 "narrow_ones" f9 _ ["words", "wide"] spNar := ⟨ok_nar F9 Zr, PySem.W.mg_of X G a9, k9, F9.binds fun _ _ _ _ _ _ us hl => match us, hl with | [_, _], _ => rfl⟩
  have Y10 : Callee l.prog w K mg base CX0 1 "words_on" f10 _ ["rows"] spOn := ⟨ok_on F10 Zr, PySem.W.mg_of X G a10, k10, F10.binds fun _ _ _ _ _ _ us hl => match us, hl with | [_], _ => rfl⟩
  have Y11 : Callee l.prog w K mg base (CXE l.prog w) 5 "poured" f11 _ ["words", "rooms"] (spPour C6 C5) := ⟨ok_pour F11 Y3 Y8 Y4 Y9 Y10, PySem.W.mg_of X G a11, k11, F11.binds fun _ _ _ _ _ _ us hl => match us, hl with | [_, _], _ => rfl⟩
  have Y12 : Callee l.prog w K mg base CX0 1 "_law_cell_at" f12 _ ["script", "k"] (spCellAt K) := ⟨ok_cellAt F12 (PySem.W.mg_none_of X G z_len), PySem.W.mg_of X G a12, k12, F12.binds fun _ _ _ _ _ _ us hl => match us, hl with | [_, _], _ => rfl⟩
  have Y13 : Callee l.prog w K mg base CX0 1 "_law_take" f13 _ ["deck", "many"] spTake := ⟨ok_take F13, PySem.W.mg_of X G a13, k13, F13.binds fun _ _ _ _ _ _ us hl => match us, hl with | [_, _], _ => rfl⟩
  have Y14 : Callee l.prog w K mg base CX0 2 "_law_word" f14 _ ["cell", "way"] spLw := ⟨ok_lw F14 (PySem.W.mg_none_of X G z_range) Y13, PySem.W.mg_of X G a14, k14, F14.binds fun _ _ _ _ _ _ us hl => match us, hl with | [_, _], _ => rfl⟩
  have Y15 : Callee l.prog w K mg base CX0 2 "_law_bad_words" f15 _ ["words", "deck"] spBadW := ⟨ok_bad F15 (PySem.W.mg_none_of X G z_len) (PySem.W.mg_none_of X G z_tuple) Y13, PySem.W.mg_of X G a15, k15, F15.binds fun _ _ _ _ _ _ us hl => match us, hl with | [_, _], _ => rfl⟩
  have Y16 : Callee l.prog w K mg base CX0 2 "_law_rooms" f16 _ ["script"] (spRooms K) := ⟨ok_rooms F16 (PySem.W.mg_none_of X G z_range) Y12 Y13, PySem.W.mg_of X G a16, k16, F16.binds fun _ _ _ _ _ _ us hl => match us, hl with | [_], _ => rfl⟩
  have Y17 : Callee l.prog w K mg base CX0 2 "_law_bad_rooms" f17 _ ["some", "deck"] spBadR := ⟨ok_badR F17 (PySem.W.mg_none_of X G z_len) (PySem.W.mg_none_of X G z_tuple) Y13, PySem.W.mg_of X G a17, k17, F17.binds fun _ _ _ _ _ _ us hl => match us, hl with | [_, _], _ => rfl⟩
  have Y18 : Callee l.prog w K mg base CX0 1 "_law_due" f18 _ ["words", "some"] spDue := ⟨ok_due F18 (PySem.W.mg_none_of X G z_len), PySem.W.mg_of X G a18, k18, F18.binds fun _ _ _ _ _ _ us hl => match us, hl with | [_, _], _ => rfl⟩
  have Y19 : Callee l.prog w K mg base CX0 1 "_law_told" f19 _ ["found", "due", "words"] spTold := ⟨ok_told F19 Zr, PySem.W.mg_of X G a19, k19, F19.binds fun _ _ _ _ _ _ us hl => match us, hl with | [_, _, _], _ => rfl⟩
  have Y20 : Callee l.prog w K mg base CX0 1 "_law_apart" f20 _ ["found", "due", "at"] spApart := ⟨ok_apart F20 (PySem.W.mg_none_of X G z_len) (PySem.W.mg_none_of X G z_range) (PySem.W.mg_none_of X G z_int), PySem.W.mg_of X G a20, k20, F20.binds fun _ _ _ _ _ _ us hl => match us, hl with | [_, _, _], _ => rfl⟩
  have Y21 : Callee l.prog w K mg base CX0 6 "_law_refused" f21 _ ["words", "some"] spRefused := ⟨ok_refused F21 (PySem.W.mg_none_of X G z_isinstance) ZK Y11, PySem.W.mg_of X G a21, k21, F21.binds fun _ _ _ _ _ _ us hl => match us, hl with | [_, _], _ => rfl⟩
  exact ok_law F22 (PySem.W.mg_none_of X G z_len) (PySem.W.mg_none_of X G z_list) (PySem.W.mg_none_of X G z_sum) (PySem.W.mg_none_of X G z_range) Y12 Y14 Y16 Y18 Y11 Y19 Y20 Y15 Y17 Y21
end KS
open PySem PySem.W PyProof.Rows
set_option maxRecDepth 100000 in
set_option maxHeartbeats 0 in
theorem PySem.Challenge.cw_pagepart_k71_poured_holds : PySem.Challenge.rw_pagepart_k71_poured.Holds := by
  w_on; o_law; k_head; (case hw => w_witness2)
  k_fill
  refine L2.walk_ofK (l := PySem.Challenge.rw_pagepart_k71_poured) (n := 63) (k := 7) (x := "script") (CX := L2.CX0) (sp := fun K => KS.spLaw K) rfl (by decide) rfl ⟨rfl, by decide, by decide⟩ (fun w h Y => PySem.W.kIn_of Y) ?F (fun K H a ns hl hO hS => ⟨a, ns, rfl, hS, hl, fun _ => rfl⟩) fun _ _ _ _ z => z
  case F =>
    intro w mg fa h KX G hmg 
    refine' KS.all_mk KX G hmg  ?a0 ?l0 ?c0 ?k0 ?a1 ?l1 ?c1 ?k1 ?a2 ?l2 ?c2 ?k2 ?a3 ?l3 ?c3 ?k3 ?a4 ?l4 ?c4 ?k4 ?a5 ?l5 ?c5 ?k5 ?a6 ?l6 ?c6 ?k6 ?a7 ?l7 ?c7 ?k7 ?a8 ?l8 ?c8 ?k8 ?a9 ?l9 ?c9 ?k9 ?a10 ?l10 ?c10 ?k10 ?a11 ?l11 ?c11 ?k11 ?a12 ?l12 ?c12 ?k12 ?a13 ?l13 ?c13 ?k13 ?a14 ?l14 ?c14 ?k14 ?a15 ?l15 ?c15 ?k15 ?a16 ?l16 ?c16 ?k16 ?a17 ?l17 ?c17 ?k17 ?a18 ?l18 ?c18 ?k18 ?a19 ?l19 ?c19 ?k19 ?a20 ?l20 ?c20 ?k20 ?a21 ?l21 ?c21 ?k21 ?a22 ?l22 ?c22 ?k22 ?C0m ?C1m ?C2m ?C3m ?C4m ?C5m ?C6m ?C7m ?C8m ?C9m ?z_len ?z_range ?z_sum ?z_isinstance ?z_tuple ?z_str ?z_list ?z_int ?z_bool ?z_all ?z_any ?z_ord ?z_enumerate ?z_ValueError ?g_LEFT_OUT ?g_MOST_SIGNS ?ex5 ?ex6 ?e0a ?e0b ?e0c ?e0f ?e0g ?e0h ?e0i ?e5a ?e5b ?e5c ?e5f ?e5g ?e5h ?e5i ?e6a ?e6b ?e6c ?e6f ?e6g ?e6h ?e6i ?ed ?ee ?kt0 ?kt1 ?kt2 ?kt3 ?kt4 ?kt5 ?kt6 ?kt7 ?kt8 ?kt9 ?kt10 ?q_int0 ?q_int1 ?q_int2 ?q_int3 ?q_int4 ?q_int5 ?q_int6 ?q_bool0 ?q_bool1 ?q_bool2 ?q_bool3 ?q_bool4 ?q_bool5 ?q_bool6 ?q_tuple0 ?q_tuple1 ?q_tuple2 ?q_tuple3 ?q_tuple4 ?q_tuple5 ?q_tuple6 ?q_list0 ?q_list1 ?q_list2 ?q_list3 ?q_list4 ?q_list5 ?q_list6 ?up6 ?qT6 ?qN6 ?qv6 ?qA6 ?up5 ?qT5 ?qN5 ?qv5 ?qA5
    (case a0 => k_is)
    (case l0 => k_is)
    (case c0 => k_is)
    (case k0 => k_is)
    (case a1 => k_is)
    (case l1 => k_is)
    (case c1 => k_is)
    (case k1 => k_is)
    (case a2 => k_is)
    (case l2 => k_is)
    (case c2 => k_is)
    (case k2 => k_is)
    (case a3 => k_is)
    (case l3 => k_is)
    (case c3 => k_is)
    (case k3 => k_is)
    (case a4 => k_is)
    (case l4 => k_is)
    (case c4 => k_is)
    (case k4 => k_is)
    (case a5 => k_is)
    (case l5 => k_is)
    (case c5 => k_is)
    (case k5 => k_is)
    (case a6 => k_is)
    (case l6 => k_is)
    (case c6 => k_is)
    (case k6 => k_is)
    (case a7 => k_is)
    (case l7 => k_is)
    (case c7 => k_is)
    (case k7 => k_is)
    (case a8 => k_is)
    (case l8 => k_is)
    (case c8 => k_is)
    (case k8 => k_is)
    (case a9 => k_is)
    (case l9 => k_is)
    (case c9 => k_is)
    (case k9 => k_is)
    (case a10 => k_is)
    (case l10 => k_is)
    (case c10 => k_is)
    (case k10 => k_is)
    (case a11 => k_is)
    (case l11 => k_is)
    (case c11 => k_is)
    (case k11 => k_is)
    (case a12 => k_is)
    (case l12 => k_is)
    (case c12 => k_is)
    (case k12 => k_is)
    (case a13 => k_is)
    (case l13 => k_is)
    (case c13 => k_is)
    (case k13 => k_is)
    (case a14 => k_is)
    (case l14 => k_is)
    (case c14 => k_is)
    (case k14 => k_is)
    (case a15 => k_is)
    (case l15 => k_is)
    (case c15 => k_is)
    (case k15 => k_is)
    (case a16 => k_is)
    (case l16 => k_is)
    (case c16 => k_is)
    (case k16 => k_is)
    (case a17 => k_is)
    (case l17 => k_is)
    (case c17 => k_is)
    (case k17 => k_is)
    (case a18 => k_is)
    (case l18 => k_is)
    (case c18 => k_is)
    (case k18 => k_is)
    (case a19 => k_is)
    (case l19 => k_is)
    (case c19 => k_is)
    (case k19 => k_is)
    (case a20 => k_is)
    (case l20 => k_is)
    (case c20 => k_is)
    (case k20 => k_is)
    (case a21 => k_is)
    (case l21 => k_is)
    (case c21 => k_is)
    (case k21 => k_is)
    (case a22 => k_is)
    (case l22 => k_is)
    (case c22 => k_is)
    (case k22 => k_is)
    (case C0m => k_is)
    (case C1m => k_is)
    (case C2m => k_is)
    (case C3m => k_is)
    (case C4m => k_is)
    (case C5m => k_is)
    (case C6m => k_is)
    (case C7m => k_is)
    (case C8m => k_is)
    (case C9m => k_is)
    (case z_len => k_is)
    (case z_range => k_is)
    (case z_sum => k_is)
    (case z_isinstance => k_is)
    (case z_tuple => k_is)
    (case z_str => k_is)
    (case z_list => k_is)
    (case z_int => k_is)
    (case z_bool => k_is)
    (case z_all => k_is)
    (case z_any => k_is)
    (case z_ord => k_is)
    (case z_enumerate => k_is)
    (case z_ValueError => k_is)
    (case g_LEFT_OUT => k_is)
    (case g_MOST_SIGNS => k_is)
    (case ex5 => kernel_rfl)
    (case ex6 => kernel_rfl)
    (case e0a => k_is)
    (case e0b => k_is)
    (case e0c => k_is)
    (case e0f => k_is)
    (case e0g => k_is)
    (case e0h => k_is)
    (case e0i => kernel_rfl)
    (case e5a => k_is)
    (case e5b => k_is)
    (case e5c => k_is)
    (case e5f => k_is)
    (case e5g => k_is)
    (case e5h => k_is)
    (case e5i => kernel_rfl)
    (case e6a => k_is)
    (case e6b => k_is)
    (case e6c => k_is)
    (case e6f => k_is)
    (case e6g => k_is)
    (case e6h => k_is)
    (case e6i => kernel_rfl)
    (case ed => k_is)
    (case ee => k_is)
    (case kt0 => kernel_rfl)
    (case kt1 => kernel_rfl)
    (case kt2 => kernel_rfl)
    (case kt3 => kernel_rfl)
    (case kt4 => kernel_rfl)
    (case kt5 => kernel_rfl)
    (case kt6 => kernel_rfl)
    (case kt7 => kernel_rfl)
    (case kt8 => kernel_rfl)
    (case kt9 => kernel_rfl)
    (case kt10 => kernel_rfl)
    (case q_int0 => kernel_rfl)
    (case q_int1 => kernel_rfl)
    (case q_int2 => kernel_rfl)
    (case q_int3 => kernel_rfl)
    (case q_int4 => kernel_rfl)
    (case q_int5 => kernel_rfl)
    (case q_int6 => kernel_rfl)
    (case q_bool0 => kernel_rfl)
    (case q_bool1 => kernel_rfl)
    (case q_bool2 => kernel_rfl)
    (case q_bool3 => kernel_rfl)
    (case q_bool4 => kernel_rfl)
    (case q_bool5 => kernel_rfl)
    (case q_bool6 => kernel_rfl)
    (case q_tuple0 => kernel_rfl)
    (case q_tuple1 => kernel_rfl)
    (case q_tuple2 => kernel_rfl)
    (case q_tuple3 => kernel_rfl)
    (case q_tuple4 => kernel_rfl)
    (case q_tuple5 => kernel_rfl)
    (case q_tuple6 => kernel_rfl)
    (case q_list0 => kernel_rfl)
    (case q_list1 => kernel_rfl)
    (case q_list2 => kernel_rfl)
    (case q_list3 => kernel_rfl)
    (case q_list4 => kernel_rfl)
    (case q_list5 => kernel_rfl)
    (case q_list6 => kernel_rfl)
    (case up6 => k_is)
    (case qT6 => kernel_rfl)
    (case qN6 => kernel_rfl)
    (case qv6 => kernel_rfl)
    (case qA6 => kernel_rfl)
    (case up5 => k_is)
    (case qT5 => kernel_rfl)
    (case qN5 => kernel_rfl)
    (case qv5 => kernel_rfl)
    (case qA5 => kernel_rfl)
#print axioms PySem.Challenge.cw_pagepart_k71_poured_holds
