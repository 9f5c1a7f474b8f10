import PyProof.Rows.All
import Wide.All
import OpenK.AllK
import Wide.FinOn
import Lean
import PyProof.EqAt
import PyProof.EqKinds
import PyProof.TupleCall
import PyProof.Draws
import PyProof.EnumMake
import PyProof.TupleIter
import PyProof.WalksMore
import PyProof.MinMaxWalk
import PyProof.SeqI3
import KE.KSortTup
import KE.KLam
import KE.KIsAll
import PyProof.Rows.CallKwBuiltin
import PyProof.SumWalk
import PyProof.CompFree
import PyProof.CompUse
import PyProof.ConsumeWalk
import PyProof.NeKinds
import PyProof.Rows.StrJoin2
import PyProof.Rows.SortShell
import PyProof.StrBlock2
import PyProof.StrWalks
import PyProof.FString5
import KE.KRevIter
import PyProof.AutoSeq1
import PyProof.Rows.SortWalk
import PyProof.Rows.SeqMore
import PyProof.ZipIter
import PyProof.Rows.StrSplitAre
import PyProof.StrLawsTight
import PySem.Challenge.RW_pagepart_k33_boxes_counted
set_option Elab.async false
set_option linter.all false
set_option maxRecDepth 100000
namespace L2
open PySem PySem.Spec PyProof.Rows
abbrev Key := Sum Int Str
def keyIs : Key → Value → Bool
  | .inl k, v => Value.isInt k v
  | .inr x, v => Value.isStrOf x v
def keyH (w : World) : Key → Int
  | .inl k => hashInt k
  | .inr x => hashStr w x
theorem keyIs_shape : ∀ {k : Key} {v : Value}, keyIs k v = true → (∃ i t, k = Sum.inl i ∧ v = Value.int i t) ∨ (∃ x t, k = Sum.inr x ∧ v = Value.str x t)
  | .inl i, v, h => by
    obtain ⟨t, e⟩ := Value.isInt_shape (k := i) (v := v) h
    exact .inl ⟨i, t, rfl, e⟩
  | .inr x, v, h => by
    obtain ⟨t, e⟩ := Value.isStrOf_shape (x := x) (v := v) h
    exact .inr ⟨x, t, rfl, e⟩
theorem key_ll (a b : Int) : decide ((Sum.inl a : Key) = Sum.inl b) = (a == b) := by
  by_cases e : a = b
  · subst e; simp
  · have h : ¬ (Sum.inl a : Key) = Sum.inl b := fun q => e (Sum.inl.inj q)
    rw [decide_eq_false h]
    exact (beq_eq_false_iff_ne.mpr e).symm
theorem key_rr (a b : Str) : decide ((Sum.inr a : Key) = Sum.inr b) = decide (a = b) := by
  by_cases e : a = b
  · subst e; simp
  · have h : ¬ (Sum.inr a : Key) = Sum.inr b := fun q => e (Sum.inr.inj q)
    rw [decide_eq_false h, decide_eq_false e]
theorem key_lr (a : Int) (b : Str) : decide ((Sum.inl a : Key) = Sum.inr b) = false := decide_eq_false (fun q => nomatch q)
theorem key_rl (a : Str) (b : Int) : decide ((Sum.inr a : Key) = Sum.inl b) = false := decide_eq_false (fun q => nomatch q)
def mixKind (prog : Program) (w : World) : PySem.KeyKind prog w Key where
  is := keyIs
  hash := keyH w
  inj := fun v a b ha hb => by
    rcases keyIs_shape ha with ⟨i, t, rfl, rfl⟩ | ⟨x, t, rfl, rfl⟩
    · rcases keyIs_shape hb with ⟨j, u, rfl, e⟩ | ⟨y, u, rfl, e⟩
      · injection e with e1 _; rw [e1]
      · exact nomatch e
    · rcases keyIs_shape hb with ⟨j, u, rfl, e⟩ | ⟨y, u, rfl, e⟩
      · exact nomatch e
      · injection e with e1 _; rw [e1]
  byValue := fun k v h => by
    rcases keyIs_shape h with ⟨i, t, rfl, rfl⟩ | ⟨x, t, rfl, rfl⟩ <;> rfl
  pyHash := fun hv h => by
    rcases keyIs_shape hv with ⟨i, t, rfl, rfl⟩ | ⟨x, t, rfl, rfl⟩
    · exact wpAny_pyHash_int h
    · exact wpAny_pyHash_str h
  eqBool := fun hu hv h => by
    rcases keyIs_shape hu with ⟨i, t, rfl, rfl⟩ | ⟨x, t, rfl, rfl⟩
    · rcases keyIs_shape hv with ⟨j, u, rfl, rfl⟩ | ⟨y, u, rfl, rfl⟩
      · rw [key_ll] at h; exact wpAny_eqBool_int h
      · rw [key_lr] at h; exact SeqAt.EqAt.int_str i t y u _ _ _ _ h
    · rcases keyIs_shape hv with ⟨j, u, rfl, rfl⟩ | ⟨y, u, rfl, rfl⟩
      · rw [key_rl] at h; exact SeqAt.EqAt.str_int x t j u _ _ _ _ h
      · rw [key_rr] at h; exact wpAny_eqBool_str h
  «strs» := fun k x t v h => by
    rcases keyIs_shape h with ⟨i, u, rfl, e⟩ | ⟨y, u, rfl, e⟩
    · exact nomatch e
    · injection e with e1 _
      subst e1
      cases v <;> rfl
end L2
namespace L2
open PySem PySem.Spec PyProof.Rows
inductive V where
  | non | bl (b : Bool) | int (i : Int) | str (x : Str) | byt (b : Array UInt8) | flt (b : UInt64) | ref (a : Addr) | ty (n : String)
  deriving DecidableEq
def RelV : V → Value → Prop
  | .non, u => u = Value.none
  | .bl b, u => u = Value.bool b
  | .int i, u => ∃ t, u = Value.int i t
  | .str x, u => ∃ t, u = Value.str x t
  | .byt b, u => ∃ t, u = Value.bytes b t
  | .flt b, u => ∃ t, u = Value.float b t
  | .ref a, u => u = Value.ref a
  | .ty n, u => u = Value.type n
abbrev Vals : List V → List Value → Prop := Paired RelV
theorem Vals.length {xs : List V} {us : List Value} (r : Vals xs us) : xs.length = us.length := Paired.length r
theorem Vals.get : ∀ {xs : List V} {us : List Value} {i : Nat} {x : V}, Vals xs us → xs[i]? = some x → ∃ u, us[i]? = some u ∧ RelV x u
  | _, _, _, _, .nil, e => by simp at e
  | _, _, 0, _, .cons r _, e => by simp at e; subst e; exact ⟨_, rfl, r⟩
  | _, _, i + 1, x, .cons _ t, e => by
    obtain ⟨u, h1, h2⟩ := Vals.get (i := i) (x := x) t (by simpa using e)
    exact ⟨u, by simpa using h1, h2⟩
theorem Vals.append : ∀ {xs ys : List V} {us ws : List Value}, Vals xs us → Vals ys ws → Vals (xs ++ ys) (us ++ ws)
  | _, _, _, _, .nil, s => s
  | _, _, _, _, .cons r t, s => .cons r (Vals.append t s)
theorem Vals.take : ∀ {xs : List V} {us : List Value} (n : Nat), Vals xs us → Vals (xs.take n) (us.take n)
  | _, _, 0, _ => .nil
  | _, _, _ + 1, .nil => .nil
  | _, _, n + 1, .cons r t => .cons r (Vals.take n t)
theorem Vals.drop : ∀ {xs : List V} {us : List Value} (n : Nat), Vals xs us → Vals (xs.drop n) (us.drop n)
  | _, _, 0, r => r
  | _, _, _ + 1, .nil => .nil
  | _, _, n + 1, .cons _ t => Vals.drop n t
def RelO : Option V → Option Value → Prop
  | some v, some u => RelV v u
  | none, none => True
  | _, _ => False
def KV {κ : Type} : List (κ × V) → List (κ × Value) → Prop := Paired fun (p : κ × V) (q : κ × Value) => p.1 = q.1 ∧ RelV p.2 q.2
def kV : Key → V
  | .inl i => .int i
  | .inr x => .str x
inductive HO where
  /-- a list -/
  | lst (xs : List V)
  /-- a tuple (never changes) -/
  | tup (xs : List V)
  /-- a dict whose keys are ints and texts; one whose keys are tuples of ints and texts (the empty one is both) -/
  | dK (kvs : List (Key × V)) | dT (kvs : List (List Key × V))
  /-- a set of ints: its members, its size -/
  | set (S : Int → Bool) (n : Nat)
  /-- an instance of the class at C, its dict at dx, its attributes -/
  | ins (C dx : Addr) (fs : List (Str × V))
  /-- the dict of the instance at x -/
  | own (x : Addr)
  /-- the dict of an exception -/
  | xd (fs : List (Str × V))
  /-- a bound method, f of x -/
  | met (f x : Addr)
  /-- a range object lo, lo + 1, .. below hi -/
  | rng (lo hi : Int)
  /-- a thing that is known to the object (the script; a dict while a loop walks it): read, never written while it is so -/
  | frz (o : Obj) (u : HO)
  /-- a code object's table -/
  | tbl (ps : Array Value)
  /-- any other thing, by what is true of its one object (a def of one's own: SetO a S n := HO.ext fun h => ..) -/
  | ext (φ : Heap → Prop)
abbrev Hp := Addr → Option HO
def upd (H : Hp) (a : Addr) (o : HO) : Hp := fun b => if b = a then some o else H b
theorem upd_same {H : Hp} {a : Addr} {o : HO} : upd H a o a = some o := by unfold upd; rw [if_pos rfl]
theorem upd_ne {H : Hp} {a b : Addr} {o : HO} (h : b ≠ a) : upd H a o b = H b := by unfold upd; rw [if_neg h]
theorem ne_of {H : Hp} {a b : Addr} {o u : HO} (h : H a = some o) (h' : H b = some u) (d : o ≠ u) : a ≠ b := by
  intro e; subst e; rw [h] at h'; exact d (Option.some.inj h')
theorem ne_of_none {H : Hp} {a b : Addr} {o : HO} (h : H a = some o) (h' : H b = none) : a ≠ b := by
  intro e; subst e; rw [h] at h'; cases h'
section
variable (P : Program) (w : World)
def ObjOk (H : Hp) (h : Heap) (a : Addr) : HO → Prop
  | .lst xs => xs.length ≤ sizeLine ∧ ∃ (its : List Value) (n : Nat), Vals xs its ∧ h.get? a = some { cls := .type "list", data := .seq its.toArray n }
  | .tup xs => xs.length ≤ sizeLine ∧ ∃ its : List Value, Vals xs its ∧ IsTup h a its.toArray
  | .dK kvs => kvs.length ≤ sizeLine ∧ (a == sysModules) = false ∧ ∃ vs, KV kvs vs ∧ h.DictOf (mixKind P w) a vs
  | .dT kvs => kvs.length ≤ sizeLine ∧ (a == sysModules) = false ∧ ∃ xs : List (List Key × Addr × Value),
      Paired (fun (p : List Key × V) (q : List Key × Addr × Value) => p.1 = q.1 ∧ H q.2.1 = some (.tup (p.1.map kV)) ∧ RelV p.2 q.2.2) kvs xs ∧
      ∃ o es ep, h.get? a = some o ∧ o.ExactDict ∧ o.data = .dict es ep ∧ es.toList = xs.map (entryOfKey (tupleKind (mixKind P w))) ∧ (xs.map (·.1)).Nodup
  | .set S n => h.SetOf (intKind P w) a S n
  | .ins C dx fs => H dx = some (.own a) ∧ fs.length ≤ 1000 ∧ dx ≠ a ∧ h.get? a = some (PySem.W.instObj C dx) ∧
      ∃ mA, h.Ns1 dx mA ∧ (∀ f, RelO (fs.lookup f) (mA f)) ∧ PySem.Within mA (fs.map (·.1))
  | .own _ => ∃ o, h.get? a = some o
  | .xd fs => ∃ mA, h.Ns1 a mA ∧ ∀ f, RelO (fs.lookup f) (mA f)
  | .rng lo hi => ∃ t u v, h.get? a = some { cls := .type "range", data := .fields #[.int lo t, .int hi u, .int 1 v] }
  | .frz o u => h.get? a = some o ∧ ObjOk H h a u
  | .tbl ps => h.get? a = some { cls := .none, data := .fields ps }
  | .met f x => h.get? a = some (PySem.W.methodObj (.ref f) (.ref x))
  | .ext φ => φ h ∧ (∃ o, h.get? a = some o) ∧ ∀ h1 h2 : Heap, φ h1 → (∀ o, h1.get? a = some o → h2.get? a = some o) → φ h2
def HOk (H : Hp) (h : Heap) : Prop := ∀ a o, H a = some o → ObjOk P w H h a o
end
section
variable {P : Program} {w : World} {H H' : Hp} {h h' : Heap} {a : Addr} {o : HO}
theorem ObjOk.lt (x : ObjOk P w H h a o) : a < h.objs.size := by
  cases o with
  | lst xs => obtain ⟨_, _, _, _, e⟩ := x; exact Heap.lt_size e
  | tup xs => obtain ⟨_, _, _, p⟩ := x; exact p.lt
  | dK kvs => obtain ⟨_, _, _, _, o, _, _, e, _⟩ := x; exact Heap.lt_size e
  | dT kvs => obtain ⟨_, _, _, _, o, _, _, e, _⟩ := x; exact Heap.lt_size e
  | set S n => obtain ⟨o, _, _, _, e, _⟩ := x; exact Heap.lt_size e
  | ins C dx fs => obtain ⟨_, _, _, e, _⟩ := x; exact Heap.lt_size e
  | own y => obtain ⟨_, e⟩ := x; exact Heap.lt_size e
  | xd fs => obtain ⟨_, ⟨_, _, _, e, _⟩, _⟩ := x; exact Heap.lt_size e
  | rng lo hi => obtain ⟨_, _, _, e⟩ := x; exact Heap.lt_size e
  | frz ob u => obtain ⟨e, _⟩ := x; exact Heap.lt_size e
  | tbl ps => exact Heap.lt_size (show h.get? a = some _ from x)
  | met f y => exact Heap.lt_size (show h.get? a = some _ from x)
  | ext φ => obtain ⟨_, ⟨_, e⟩, _⟩ := x; exact Heap.lt_size e
theorem Paired.mapP {α β : Type} {F G : α → β → Prop} : ∀ {l₁ : List α} {l₂ : List β}, Paired F l₁ l₂ → (∀ a b, F a b → G a b) → Paired G l₁ l₂
  | _, _, .nil, _ => .nil
  | _, _, .cons r t, f => .cons (f _ _ r) (Paired.mapP t f)
theorem ObjOk.stay (x : ObjOk P w H h a o) (k : ∀ b u, (b = a ∨ H b = some (.own a)) → h.get? b = some u → h'.get? b = some u)
    (ho : ∀ b, H b = some (.own a) → H' b = some (.own a)) (ht : ∀ b xs, H b = some (.tup xs) → H' b = some (.tup xs)) : ObjOk P w H' h' a o := by
  induction o with
  | lst xs => obtain ⟨z, its, n, r, e⟩ := x; exact ⟨z, its, n, r, k _ _ (.inl rfl) e⟩
  | tup xs => obtain ⟨z, its, r, ob, e, c⟩ := x; exact ⟨z, its, r, ob, k _ _ (.inl rfl) e, c⟩
  | dK kvs => obtain ⟨z, y, vs, r, ob, es, ep, e, c⟩ := x; exact ⟨z, y, vs, r, ob, es, ep, k _ _ (.inl rfl) e, c⟩
  | dT kvs =>
    obtain ⟨z, y, xs, r, ob, es, ep, e, c⟩ := x
    exact ⟨z, y, xs, Paired.mapP r fun p q z => ⟨z.1, ht _ _ z.2.1, z.2.2⟩, ob, es, ep, k _ _ (.inl rfl) e, c⟩
  | set S n => obtain ⟨ob, es, ep, t, e, c⟩ := x; exact ⟨ob, es, ep, t, k _ _ (.inl rfl) e, c⟩
  | ins C dx fs =>
    obtain ⟨d, z, ne, e, mA, ⟨od, es, ep, e2, c⟩, r⟩ := x
    exact ⟨ho _ d, z, ne, k _ _ (.inl rfl) e, mA, ⟨od, es, ep, k _ _ (.inr d) e2, c⟩, r⟩
  | own y => obtain ⟨ob, e⟩ := x; exact ⟨ob, k _ _ (.inl rfl) e⟩
  | xd fs => obtain ⟨mA, ⟨od, es, ep, e, c⟩, r⟩ := x; exact ⟨mA, ⟨od, es, ep, k _ _ (.inl rfl) e, c⟩, r⟩
  | rng lo hi => obtain ⟨t, u, v, e⟩ := x; exact ⟨t, u, v, k _ _ (.inl rfl) e⟩
  | frz ob u ih => obtain ⟨e, q⟩ := x; exact ⟨k _ _ (.inl rfl) e, ih q⟩
  | tbl ps =>
    have e : h.get? a = some { cls := .none, data := .fields ps } := x
    show h'.get? a = some { cls := .none, data := .fields ps }
    exact k a _ (.inl rfl) e
  | met f y =>
    have e : h.get? a = some (PySem.W.methodObj (.ref f) (.ref y)) := x
    show h'.get? a = some (PySem.W.methodObj (.ref f) (.ref y))
    exact k a _ (.inl rfl) e
  | ext φ => obtain ⟨p, ⟨o, e⟩, st⟩ := x; exact ⟨st _ _ p fun o q => k _ _ (.inl rfl) q, ⟨o, k _ _ (.inl rfl) e⟩, st⟩
theorem HOk.lt (x : HOk P w H h) (e : H a = some o) : a < h.objs.size := (x a o e).lt
theorem HOk.fresh (x : HOk P w H h) (e : h.objs.size ≤ a) : H a = none := by
  cases q : H a with
  | none => rfl
  | some u => exact absurd (Nat.lt_of_lt_of_le (x.lt q) e) (Nat.lt_irrefl _)
theorem HOk.kept (x : HOk P w H h) (k : ∀ b u, h.get? b = some u → h'.get? b = some u) : HOk P w H h' := fun a o e =>
  (x a o e).stay (fun b u _ q => k b u q) (fun _ q => q) fun _ _ q => q
theorem HOk.laid (x : HOk P w H h) (k : ∀ b u, h.get? b = some u → h'.get? b = some u) (hp : h.objs.size ≤ a) (new : ObjOk P w (upd H a o) h' a o) : HOk P w (upd H a o) h' := fun b u e => by
  have hn := x.fresh hp
  by_cases hb : b = a
  · subst hb; rw [upd_same] at e; cases e; exact new
  · rw [upd_ne hb] at e
    exact (x b u e).stay (fun c v _ q => k c v q) (fun c q => by rw [upd_ne (ne_of_none q hn)]; exact q) fun c xs q => by rw [upd_ne (ne_of_none q hn)]; exact q
end
def Rd (H : Hp) (a : Addr) (u : HO) : Prop := H a = some u ∨ ∃ o, H a = some (.frz o u)
theorem Rd.ok {P : Program} {w : World} {H : Hp} {h : Heap} {a : Addr} {u : HO} (r : Rd H a u) (x : HOk P w H h) : ObjOk P w H h a u := by
  rcases r with r | ⟨o, r⟩
  · exact x a u r
  · obtain ⟨_, q⟩ := x a _ r
    exact q
def Mut : Option HO → Prop
  | some (.lst _) => True
  | some (.dK _) => True
  | some (.dT _) => True
  | some (.set _ _) => True
  | some (.ins _ _ _) => True
  | some (.ext _) => True
  | _ => False
section
variable {P : Program} {w : World} {H : Hp} {h h' : Heap} {x e : Addr} {o' : HO}
theorem HOk.write (ok : HOk P w H h) (mu : Mut (H x)) (he : e = x ∨ H e = some (.own x)) (k : ∀ b u, b ≠ e → h.get? b = some u → h'.get? b = some u) (heo : ∃ u, h'.get? e = some u)
    (new : ObjOk P w (upd H x o') h' x o') : HOk P w (upd H x o') h' := fun b u q => by
  have nown : ∀ c y, H c = some (.own y) → c ≠ x := fun c y r z => by subst z; rw [r] at mu; exact mu
  have ntup : ∀ c xs, H c = some (.tup xs) → c ≠ x := fun c xs r z => by subst z; rw [r] at mu; exact mu
  by_cases hb : b = x
  · subst hb; rw [upd_same] at q; cases q; exact new
  · rw [upd_ne hb] at q
    by_cases hbe : b = e
    · have q' : H b = some (.own x) := by
        rcases he with z | z
        · exact absurd (hbe.trans z) hb
        · rw [hbe]; exact z
      rw [q] at q'; cases q'
      obtain ⟨v, hv⟩ := heo
      exact ⟨v, by rw [hbe]; exact hv⟩
    · refine (ok b u q).stay (fun c v hc r => k c v ?_ r) (fun c r => by rw [upd_ne (nown c b r)]; exact r) fun c xs r => by rw [upd_ne (ntup c xs r)]; exact r
      rcases hc with rfl | hc
      · exact hbe
      · rintro rfl
        rcases he with z | z
        · exact nown c b hc z
        · rw [hc] at z; cases z; exact hb rfl
end
structure Un (fs ex : List Addr) (H H' : Hp) (h h' : Heap) : Prop where
  keep : ∀ b o, h.get? b = some o → H b = none → b ∉ fs → b ∉ ex → h'.get? b = some o
  slot : ∀ b o, h.get? b = some o → H b = none → b ∈ fs → b ∉ ex → ∃ sl, h'.get? b = some { o with slots := sl }
  free : ∀ b o, h.get? b = some o → H b = none → b ∉ ex → H' b = none
  there : ∀ b o, h.get? b = some o → b ∉ ex → ∃ o', h'.get? b = some o'
  tups : ∀ b xs, H b = some (.tup xs) → H' b = some (.tup xs)
  frzs : ∀ b o u, H b = some (.frz o u) → H' b = some (.frz o u)
  tbls : ∀ b ps, H b = some (.tbl ps) → ∃ more, H' b = some (.tbl (ps ++ more))
section
variable {fs fs' ex ex' : List Addr} {H H1 H2 : Hp} {h h1 h2 h' : Heap} {a x e : Addr} {o : HO}
theorem Un.any (u : Un fs ex H H1 h h1) {b : Addr} {ob : Obj} (q : h.get? b = some ob) (n : H b = none) (hx : b ∉ ex) : ∃ sl, h1.get? b = some { ob with slots := sl } := by
  by_cases hb : b ∈ fs
  · exact u.slot b ob q n hb hx
  · exact ⟨ob.slots, u.keep b ob q n hb hx⟩
theorem Un.kept (k : ∀ b u, h.get? b = some u → h'.get? b = some u) : Un fs ex H H h h' :=
  ⟨fun b ob q _ _ _ => k b ob q, fun b ob q _ _ _ => ⟨ob.slots, k b ob q⟩, fun _ _ _ n _ => n, fun b ob q _ => ⟨ob, k b ob q⟩, fun _ _ q => q, fun _ _ _ q => q, fun _ ps q => ⟨#[], by rw [q]; simp⟩⟩
theorem Un.refl : Un fs ex H H h h := Un.kept fun _ _ q => q
theorem Un.laid (k : ∀ b u, h.get? b = some u → h'.get? b = some u) (hp : h.objs.size ≤ a) (hn : H a = none) : Un fs ex H (upd H a o) h h' where
  keep := fun b u q _ _ _ => k b u q
  slot := fun b u q _ _ _ => ⟨u.slots, k b u q⟩
  free := fun b u q n _ => by rw [upd_ne (Nat.ne_of_lt (Nat.lt_of_lt_of_le (Heap.lt_size q) hp))]; exact n
  there := fun b u q _ => ⟨u, k b u q⟩
  tups := fun b xs q => by rw [upd_ne (ne_of_none q hn)]; exact q
  frzs := fun b u xs q => by rw [upd_ne (ne_of_none q hn)]; exact q
  tbls := fun b ps q => ⟨#[], by rw [upd_ne (ne_of_none q hn), q]; simp⟩
theorem Un.write (mu : Mut (H x)) (he : e = x ∨ H e = some (.own x)) (k : ∀ b u, b ≠ e → h.get? b = some u → h'.get? b = some u) (heo : ∃ u, h'.get? e = some u) : Un fs ex H (upd H x o) h h' := by
  have hx : ∀ b, H b = none → b ≠ x := fun b n z => by subst z; rw [n] at mu; exact mu
  have hb : ∀ b, H b = none → b ≠ e := fun b n z => by
    subst z
    rcases he with r | r
    · exact hx b n r
    · rw [n] at r; cases r
  have hm : ∀ b u, H b = some u → ¬ Mut (some u) → b ≠ x := fun b u q nm z => by subst z; rw [q] at mu; exact nm mu
  refine ⟨fun b u q n _ _ => k b u (hb b n) q, fun b u q n _ _ => ⟨u.slots, k b u (hb b n) q⟩, fun b u q n _ => by rw [upd_ne (hx b n)]; exact n, fun b u q _ => ?_,
    fun b xs q => by rw [upd_ne (hm b _ q fun z => z)]; exact q, fun b u xs q => by rw [upd_ne (hm b _ q fun z => z)]; exact q, fun b ps q => ⟨#[], by rw [upd_ne (hm b _ q fun z => z), q]; simp⟩⟩
  by_cases hbe : b = e
  · subst hbe; exact heo
  · exact ⟨u, k b u hbe q⟩
end
def trk (h : Heap) (H : Hp) : List Addr := (List.range h.objs.size).filter fun a => (H a).isSome
def hidT (h : Heap) (H : Hp) : Heap := PySem.W.hideAll h (trk h H)
theorem hidT_size (h : Heap) (H : Hp) : (hidT h H).objs.size = h.objs.size := PySem.W.hideAll_size _ _
theorem hidT_get {h : Heap} {H : Hp} {b : Addr} {o : Obj} (e : h.get? b = some o) (n : H b = none) : (hidT h H).get? b = some o :=
  PySem.W.hideAll_get _ e fun hm => by
    have q : (H b).isSome = true := (List.mem_filter.mp hm).2
    rw [n] at q; simp at q
theorem of_hidT {h : Heap} {H : Hp} {b : Addr} {o : Obj} (e : (hidT h H).get? b = some o) : h.get? b = some o ∧ H b = none := by
  have e' : h.get? b = some o := PySem.W.of_hideAll (trk h H) e
  refine ⟨e', ?_⟩
  cases q : H b with
  | none => rfl
  | some x =>
    have hm : b ∈ trk h H := List.mem_filter.mpr ⟨List.mem_range.mpr (Heap.lt_size e'), by simp [q]⟩
    have z : (hidT h H).get? b = none := PySem.W.hideAll_none (trk h H) hm
    rw [z] at e; cases e
end L2
namespace L2
open PySem PySem.Spec PyProof.Rows
structure Mod (K : PySem.W.Frag) (mg : Str → Option Value) (base : Heap) : Prop where
  kin : K.In base
  glob : base.Ns mainGlobals mg
  blt : ∃ mb, base.Ns builtinsNs mb ∧ ∀ x : Str, x ≠ "__name__" → mb x = bootBuiltins x
  nolimit : base.NoLimit
structure Cx where
  prog : Program
  w : World
  K : PySem.W.Frag
  mg : Str → Option Value
  base : Heap
  A : Around
  N : List Str
  s₀ : Shared
  H₀ : Hp
  env : Env
  outer : List Env
  stack : List Env
  ex : List Addr
  fn : Str → Bool
  calm : Bool
  pn : List (Addr × Obj)
  xe : Value → Shared → Prop
def frs (l : List Env) : List Addr := l.filterMap (·.frame)
abbrev Cx.fs (X : Cx) : List Addr := frs X.outer
def Vis (sc : Scope) (x : Str) : Prop := sc.names.lookup x = some .local ∨ sc.names.lookup x = some .cell ∨ sc.names.lookup x = some .free
def Loc (sc : Scope) (x : Str) : Prop := sc.names.lookup x = some .local ∨ sc.names.lookup x = some .cell
def Look (env : Env) (h : Heap) (m : Str → Option Value) (x : Str) (u : Value) : Prop :=
  (env.kindOf x = some .local ∧ m x = some u) ∨ ((env.kindOf x = some .cell ∨ env.kindOf x = some .free) ∧ ∃ c, env.cells.lookup x = some c ∧ h.IsCell c (some u))
structure Cx.Ok (X : Cx) : Prop where
  mod : Mod X.K X.mg X.base
  kind : X.env.scope.kind = .function
  glob : X.env.globals = mainGlobals
  blt : X.env.builtins = builtinsNs
  above : X.s₀.heap.objs.size ≤ X.env.locals
  inj : ∀ x y c, X.env.cells.lookup x = some c → X.env.cells.lookup y = some c → x = y
  has : ∀ x, (X.env.kindOf x = some .cell ∨ X.env.kindOf x = some .free) → ∃ c, X.env.cells.lookup x = some c
  cab : ∀ x c, X.fn x = true → X.env.cells.lookup x = some c → X.s₀.heap.objs.size ≤ c
  hd : X.calm = true → X.A.handled = none
  frames : X.A.frames = some X.stack
  stk : X.stack = X.outer ∨ (X.stack = X.env :: X.outer ∧ X.env.frame = some X.env.locals)
  exf : ∀ b ∈ X.ex, b ≠ X.env.locals ∧ ∀ x c, X.env.cells.lookup x = some c → c ≠ b
  bs : ∀ b o, X.base.get? b = some o → X.s₀.heap.get? b = some o ∧ X.H₀ b = none
  bsz : X.base.objs.size ≤ X.s₀.heap.objs.size
  noex : ∀ b o, X.base.get? b = some o → b ∉ X.ex
  exfs : ∀ b ∈ X.ex, b ∉ X.fs
  funs : X.s₀.heap.FunFrames X.base X.outer
  frf : ∀ b ∈ X.fs, X.H₀ b = none
structure Inv (X : Cx) (pins : List (Addr × Obj)) (σ : List (Option V)) (H : Hp) (s : Shared) : Prop where
  ok : X.Ok
  os : s.os = X.s₀.os
  bare : AllBare s.gens
  base : Un X.fs X.ex X.H₀ H X.s₀.heap s.heap
  loc : ∃ m, s.heap.Ns X.env.locals m ∧ ∀ (i : Nat) (x : Str) (v : V), X.N[i]? = some x → σ[i]? = some (some v) → Vis X.env.scope x → ∃ u, RelV v u ∧ Look X.env s.heap m x u
  cell : ∀ x c, X.env.cells.lookup x = some c → ∃ v, s.heap.IsCell c v
  free : H X.env.locals = none
  freeC : ∀ x c, X.env.cells.lookup x = some c → H c = none
  pin : ∀ p ∈ X.pn ++ pins, s.heap.get? p.1 = some p.2 ∧ H p.1 = none ∧ p.1 ≠ X.env.locals ∧ p.1 ∉ X.fs ∧ ∀ v, p.2.data ≠ .cell v
  hok : HOk X.prog X.w H s.heap
  len : σ.length = X.N.length
section
variable {X : Cx} {pins : List (Addr × Obj)} {σ : List (Option V)} {H H' : Hp} {s : Shared} {h' : Heap}
theorem Cx.Ok.nofr (ok : X.Ok) {b : Addr} {o : Obj} (e : X.base.get? b = some o) : b ∉ X.fs := fun hb => by
  have := (ok.funs.mem hb).1
  rw [e] at this; cases this
theorem Inv.bs (I : Inv X pins σ H s) : ∀ b o, X.base.get? b = some o → s.heap.get? b = some o ∧ H b = none := fun b o e =>
  ⟨I.base.keep b o (I.ok.bs b o e).1 (I.ok.bs b o e).2 (I.ok.nofr e) (I.ok.noex b o e), I.base.free b o (I.ok.bs b o e).1 (I.ok.bs b o e).2 (I.ok.noex b o e)⟩
theorem Inv.bk (I : Inv X pins σ H s) : ∀ b o, X.base.get? b = some o → s.heap.get? b = some o := fun b o e => (I.bs b o e).1
theorem Inv.mod (I : Inv X pins σ H s) : Mod X.K X.mg X.base := I.ok.mod
theorem Inv.kIn (I : Inv X pins σ H s) : X.K.In s.heap := I.ok.mod.kin.keeps I.bk
theorem Inv.lt (I : Inv X pins σ H s) : X.env.locals < s.heap.objs.size := let ⟨_, hn, _⟩ := I.loc; hn.lt
theorem Inv.sz (I : Inv X pins σ H s) : X.s₀.heap.objs.size ≤ s.heap.objs.size := Nat.le_trans I.ok.above (Nat.le_of_lt I.lt)
theorem Inv.nofs (I : Inv X pins σ H s) {a : Addr} (h : s.heap.objs.size ≤ a) : a ∉ X.fs := fun hb => by
  obtain ⟨_, o, ho, _⟩ := I.ok.funs.mem hb
  exact absurd (Nat.lt_of_lt_of_le (Heap.lt_size ho) (Nat.le_trans I.sz h)) (Nat.lt_irrefl _)
theorem Inv.cne (I : Inv X pins σ H s) : ∀ x c, X.env.cells.lookup x = some c → c ≠ X.env.locals := fun x c e z => by
  obtain ⟨v, o, ho, hd⟩ := I.cell x c e
  obtain ⟨m, ⟨o', es, ep, ho', hd', _⟩, _⟩ := I.loc
  rw [z, ho'] at ho; cases ho; rw [hd'] at hd; cases hd
theorem Inv.funs (I : Inv X pins σ H s) : s.heap.FunFrames X.base X.outer := by
  have all : ∀ (l : List Env), (∀ b ∈ frs l, b ∈ X.fs) → X.s₀.heap.FunFrames X.base l → s.heap.FunFrames X.base l := by
    intro l
    induction l with
    | nil => intro _ _; trivial
    | cons env r ih =>
      intro hs hl
      obtain ⟨hk, ⟨L, o, hf, hn, ho, hd⟩, hr⟩ := hl
      have hL : L ∈ X.fs := hs L (by unfold frs; rw [List.filterMap_cons, hf]; exact List.mem_cons_self)
      obtain ⟨sl, e⟩ := I.base.slot L o ho (I.ok.frf L hL) hL fun z => I.ok.exfs L z hL
      exact ⟨hk, ⟨L, _, hf, hn, e, hd⟩, ih (fun b hb => hs b (by unfold frs; rw [List.filterMap_cons, hf]; exact List.mem_cons_of_mem _ hb)) hr⟩
  exact all X.outer (fun _ hb => hb) I.ok.funs
theorem Inv.stack (I : Inv X pins σ H s) : s.heap.FunFrames X.base X.stack := by
  rcases I.ok.stk with e | ⟨e, hf⟩
  · rw [e]; exact I.funs
  · rw [e]
    obtain ⟨m, hn, _⟩ := I.loc
    refine .cons (by rw [I.ok.kind]; decide) hf hn ?_ I.funs
    exact Heap.get?_none_of_le (Nat.le_trans I.ok.bsz I.ok.above)
theorem Inv.stkSub (I : Inv X pins σ H s) : ∀ b ∈ frs X.stack, b ∈ X.env.locals :: X.fs := fun b hb => by
  rcases I.ok.stk with e | ⟨e, hf⟩
  · rw [e] at hb; exact List.mem_cons_of_mem _ hb
  · rw [e] at hb
    unfold frs at hb
    rw [List.filterMap_cons, hf] at hb
    exact hb
theorem Inv.stkFree (I : Inv X pins σ H s) : ∀ b ∈ frs X.stack, H b = none := fun b hb => by
  rcases List.mem_cons.mp (I.stkSub b hb) with e | hb
  · rw [e]; exact I.free
  · obtain ⟨_, o, ho, _⟩ := I.ok.funs.mem hb
    exact I.base.free b o ho (I.ok.frf b hb) fun z => I.ok.exfs b z hb
theorem Inv.step {g' : Array GenState} {t' : Nat} {d' : Drawn} {ch : List Addr} (I : Inv X pins σ H s)
    (hch : ∀ b ∈ ch, (b ∈ X.ex ∨ X.s₀.heap.objs.size ≤ b) ∧ b ≠ X.env.locals ∧ (∀ x c, X.env.cells.lookup x = some c → c ≠ b) ∧ ∀ p ∈ X.pn ++ pins, p.1 ≠ b)
    (keep : ∀ b o, b ≠ X.env.locals → b ∉ X.fs → b ∉ ch → s.heap.get? b = some o → H b = none → h'.get? b = some o)
    (slot : ∀ b o, b ≠ X.env.locals → b ∈ X.fs → b ∉ ch → s.heap.get? b = some o → H b = none → ∃ sl, h'.get? b = some { o with slots := sl }) (free : ∀ b o, b ∉ ch → s.heap.get? b = some o → H b = none → H' b = none)
    (there : ∀ b o, b ∉ ch → s.heap.get? b = some o → ∃ o', h'.get? b = some o')
    (tups : ∀ b xs, H b = some (.tup xs) → H' b = some (.tup xs)) (frzs : ∀ b o u, H b = some (.frz o u) → H' b = some (.frz o u)) (tbls : ∀ b ps, H b = some (.tbl ps) → ∃ more, H' b = some (.tbl (ps ++ more)))
    (ns : ∀ m, s.heap.Ns X.env.locals m → h'.Ns X.env.locals m) (hok : HOk X.prog X.w H' h') (hg : AllBare g') :
    Inv X pins σ H' { s with heap := h', gens := g', drawn := d', toks := t' } := by
  have neL : ∀ b o, X.s₀.heap.get? b = some o → b ≠ X.env.locals := fun b o e => Nat.ne_of_lt (Nat.lt_of_lt_of_le (Heap.lt_size e) I.ok.above)
  have neC : ∀ b o, X.s₀.heap.get? b = some o → b ∉ X.ex → b ∉ ch := fun b o e hx hb => by
    rcases (hch b hb).1 with z | z
    · exact hx z
    · exact absurd (Nat.lt_of_lt_of_le (Heap.lt_size e) z) (Nat.lt_irrefl _)
  have cellK : ∀ x c, X.env.cells.lookup x = some c → ∀ v, s.heap.IsCell c v → h'.IsCell c v := fun x c e v ⟨o, ho, hd⟩ => by
    have nch : c ∉ ch := fun z => (hch c z).2.2.1 x c e rfl
    by_cases hc : c ∈ X.fs
    · obtain ⟨sl, q⟩ := slot c o (I.cne x c e) hc nch ho (I.freeC x c e)
      exact ⟨_, q, hd⟩
    · exact ⟨o, keep c o (I.cne x c e) hc nch ho (I.freeC x c e), hd⟩
  refine ⟨I.ok, I.os, hg, ⟨fun b o e n hb hx => ?_, fun b o e n hb hx => ?_, fun b o e n hx => ?_, fun b o e hx => ?_, fun b xs e => tups b xs (I.base.tups b xs e), fun b o xs e => frzs b o xs (I.base.frzs b o xs e), fun b ps e => ?_⟩, ?_, fun x c e => ?_, ?_, fun x c e => ?_, fun p hp => ?_, hok, I.len⟩
  · exact keep b o (neL b o e) hb (neC b o e hx) (I.base.keep b o e n hb hx) (I.base.free b o e n hx)
  · obtain ⟨sl, e1⟩ := I.base.slot b o e n hb hx
    obtain ⟨sl', e2⟩ := slot b _ (neL b o e) hb (neC b o e hx) e1 (I.base.free b o e n hx)
    exact ⟨sl', e2⟩
  · obtain ⟨o', e1⟩ := I.base.there b o e hx
    exact free b o' (neC b o e hx) e1 (I.base.free b o e n hx)
  · obtain ⟨o', e1⟩ := I.base.there b o e hx
    exact there b o' (neC b o e hx) e1
  · obtain ⟨m1, e1⟩ := I.base.tbls b ps e
    obtain ⟨m2, e2⟩ := tbls b _ e1
    exact ⟨m1 ++ m2, by rw [e2, Array.append_assoc]⟩
  · obtain ⟨m, hn, hl⟩ := I.loc
    refine ⟨m, ns m hn, fun i x v e1 e2 e3 => ?_⟩
    obtain ⟨u, r, l⟩ := hl i x v e1 e2 e3
    refine ⟨u, r, ?_⟩
    rcases l with l | ⟨k, c, e, z⟩
    · exact .inl l
    · exact .inr ⟨k, c, e, cellK x c e _ z⟩
  · obtain ⟨v, z⟩ := I.cell x c e
    exact ⟨v, cellK x c e v z⟩
  · obtain ⟨m, ⟨o, _, _, ho, _⟩, _⟩ := I.loc
    exact free _ o (fun z => (hch _ z).2.1 rfl) ho I.free
  · obtain ⟨v, o, ho, hd⟩ := I.cell x c e
    exact free c o (fun z => (hch c z).2.2.1 x c e rfl) ho (I.freeC x c e)
  · obtain ⟨e, n, ne, nf, d⟩ := I.pin p hp
    have nch : p.1 ∉ ch := fun z => (hch p.1 z).2.2.2 p hp rfl
    exact ⟨keep p.1 p.2 ne nf nch e n, free p.1 p.2 nch e n, ne, nf, d⟩
theorem Inv.un {t' : Nat} (I : Inv X pins σ H s) (u : Un X.fs [] H H' s.heap h') (hok : HOk X.prog X.w H' h') : Inv X pins σ H' { s with heap := h', toks := t' } := by
  obtain ⟨m, ⟨o, es, ep, ho, r⟩, _⟩ := id I.loc
  obtain ⟨sl, hL⟩ := u.any ho I.free (by simp)
  exact I.step (g' := s.gens) (d' := s.drawn) (ch := []) (fun _ z => nomatch z) (fun b o _ hb _ e n => u.keep b o e n hb (by simp)) (fun b o _ hb _ e n => u.slot b o e n hb (by simp)) (fun b o _ e n => u.free b o e n (by simp)) (fun b o _ e => u.there b o e (by simp)) u.tups u.frzs u.tbls (fun m' hm => by
    obtain ⟨o', es', ep', ho', r'⟩ := hm
    rw [ho] at ho'; cases ho'
    exact ⟨_, es', ep', hL, r'⟩) hok I.bare
theorem Inv.call {g' : Array GenState} {t' : Nat} {d' : Drawn} {ch : List Addr} (I : Inv X pins σ H s) (u : Un (frs X.stack) ch H H' s.heap h') (hok : HOk X.prog X.w H' h') (hg : AllBare g')
    (hch : ∀ b ∈ ch, (b ∈ X.ex ∨ X.s₀.heap.objs.size ≤ b) ∧ b ≠ X.env.locals ∧ (∀ x c, X.env.cells.lookup x = some c → c ≠ b) ∧ ∀ p ∈ X.pn ++ pins, p.1 ≠ b) :
    Inv X pins σ H' { s with heap := h', gens := g', drawn := d', toks := t' } := by
  obtain ⟨m, ⟨o, es, ep, ho, r⟩, _⟩ := id I.loc
  obtain ⟨sl, hL⟩ := u.any ho I.free fun z => (hch _ z).2.1 rfl
  exact I.step (ch := ch) hch (fun b o hL hb hc e n => u.keep b o e n (fun z => (List.mem_cons.mp (I.stkSub b z)).elim hL hb) hc) (fun b o _ _ hc e n => u.any e n hc) (fun b o hc e n => u.free b o e n hc) (fun b o hc e => u.there b o e hc) u.tups u.frzs u.tbls (fun m' hm => by
    obtain ⟨o', es', ep', ho', r'⟩ := hm
    rw [ho] at ho'; cases ho'
    exact ⟨_, es', ep', hL, r'⟩) hok hg
theorem Inv.turned {t' : Nat} {it : Addr} (I : Inv X pins σ H s) (k : ∀ b o, b ≠ it → s.heap.get? b = some o → h'.get? b = some o) (hn : H it = none) (hL : it ≠ X.env.locals)
    (h1 : it ∈ X.ex ∨ X.s₀.heap.objs.size ≤ it) (h2 : ∀ x c, X.env.cells.lookup x = some c → c ≠ it) (h3 : ∀ p ∈ X.pn ++ pins, p.1 ≠ it) : Inv X pins σ H { s with heap := h', toks := t' } := by
  have nit : ∀ b u, H b = some u → b ≠ it := fun b u e z => by rw [z, hn] at e; cases e
  refine I.step (g' := s.gens) (d' := s.drawn) (ch := [it]) (fun b hb => ?_) (fun b o _ _ hc e _ => k b o (fun z => hc (by simp [z])) e) (fun b o _ _ hc e _ => ⟨o.slots, k b o (fun z => hc (by simp [z])) e⟩) (fun _ _ _ _ n => n)
    (fun b o hc e => ⟨o, k b o (fun z => hc (by simp [z])) e⟩) (fun _ _ e => e) (fun _ _ _ e => e) (fun b ps e => ⟨#[], by rw [e]; simp⟩) (fun m hm => ?_) (fun b u e => ?_) I.bare
  · have e : b = it := by simpa using hb
    subst e
    exact ⟨h1, hL, h2, h3⟩
  · obtain ⟨o, es, ep, ho, r⟩ := hm
    exact ⟨o, es, ep, k _ o (Ne.symm hL) ho, r⟩
  · refine (I.hok b u e).stay (fun c v hc q => k c v ?_ q) (fun _ q => q) fun _ _ q => q
    rcases hc with z | z
    · rw [z]; exact nit b u e
    · exact nit c _ z
theorem Inv.tok (I : Inv X pins σ H s) (t : Nat) : Inv X pins σ H { s with toks := t } := I.un (h' := s.heap) (t' := t) Un.refl I.hok
theorem Inv.kept {t' : Nat} (I : Inv X pins σ H s) (k : ∀ b u, s.heap.get? b = some u → h'.get? b = some u) : Inv X pins σ H { s with heap := h', toks := t' } := I.un (Un.kept k) (I.hok.kept k)
theorem Inv.laid {a : Addr} {o : HO} {t' : Nat} (I : Inv X pins σ H s) (k : ∀ b u, s.heap.get? b = some u → h'.get? b = some u) (hp : s.heap.objs.size ≤ a) (new : ObjOk X.prog X.w (upd H a o) h' a o) :
    Inv X pins σ (upd H a o) { s with heap := h', toks := t' } := I.un (Un.laid k hp (I.hok.fresh hp)) (I.hok.laid k hp new)
theorem Inv.write {x e : Addr} {o : HO} {t' : Nat} (I : Inv X pins σ H s) (mu : Mut (H x)) (he : e = x ∨ H e = some (.own x)) (k : ∀ b u, b ≠ e → s.heap.get? b = some u → h'.get? b = some u) (heo : ∃ u, h'.get? e = some u)
    (new : ObjOk X.prog X.w (upd H x o) h' x o) : Inv X pins σ (upd H x o) { s with heap := h', toks := t' } := I.un (Un.write mu he k heo) (I.hok.write mu he k heo new)
theorem Inv.pins_of {pins' : List (Addr × Obj)} (I : Inv X pins σ H s) (h : ∀ p ∈ pins', s.heap.get? p.1 = some p.2 ∧ H p.1 = none ∧ p.1 ≠ X.env.locals ∧ p.1 ∉ X.fs ∧ ∀ v, p.2.data ≠ .cell v) : Inv X pins' σ H s :=
  ⟨I.ok, I.os, I.bare, I.base, I.loc, I.cell, I.free, I.freeC, fun p hp => (List.mem_append.mp hp).elim (fun z => I.pin p (List.mem_append_left _ z)) (h p), I.hok, I.len⟩
theorem nodup_ix {N : List Str} (hN : N.Nodup) {i j : Nat} {x : Str} (a : N[i]? = some x) (b : N[j]? = some x) : i = j := by
  obtain ⟨h1, e1⟩ := List.getElem?_eq_some_iff.mp a
  obtain ⟨h2, e2⟩ := List.getElem?_eq_some_iff.mp b
  exact (List.getElem_inj hN).mp (e1.trans e2.symm)
theorem store_ok2 {M : Model} {A : Around} {E : Value → Shared → Prop} {i : Nat} {x : Str} {v : V} {u : Value} {Q : Unit → Shared → Prop} (I : Inv X pins σ H s) (hN : X.N.Nodup) (hi : X.N[i]? = some x) (hx : Loc X.env.scope x) (r : RelV v u)
    (h : ∀ s', Inv X pins (σ.set i (some v)) H s' → (∃ a, Heap.SameBut a s.heap s'.heap ∧ (a = X.env.locals ∨ X.env.cells.lookup x = some a)) → Q () s') (hf : X.fn x = true ∨ X.env.scope.names.lookup x = some .local := by first | exact .inl rfl | exact .inr rfl | assumption) : wpAny M A (storeName X.env x u) Q E s := by
  obtain ⟨m, hn, hl⟩ := id I.loc
  have hcls : (X.env.scope.kind == .class || (X.env.scope.kind == .module && X.env.locals != X.env.globals)) = false := by rw [I.ok.kind]; rfl
  have hiσ : i < σ.length := by rw [I.len]; exact (List.getElem?_eq_some_iff.mp hi).1
  have cne := I.cne
  have tracked : ∀ {a : Addr} {h' : Heap}, (∃ o, s.heap.get? a = some o ∧ H a = none) → Heap.SameBut a s.heap h' → HOk X.prog X.w H h' := fun {a h'} ha hs b ob e => by
    obtain ⟨_, _, hfree⟩ := ha
    refine (I.hok b ob e).stay (fun c w' hc q => (hs.2 c ?_).trans q) (fun _ q => q) fun _ _ q => q
    rintro rfl
    rcases hc with rfl | hc
    · rw [hfree] at e; cases e
    · rw [hfree] at hc; cases hc
  rcases hx with hk | hk
  · refine wpAny_storeName_local hk hn (fun h' hn' hs => ?_) hcls
    obtain ⟨oL, _, _, hoL, _⟩ := id hn
    refine h _ ⟨I.ok, I.os, I.bare, ⟨fun b o e n hb hx => ?_, fun b o e n hb hx => ?_, I.base.free, fun b o e hx => ?_, I.base.tups, I.base.frzs, I.base.tbls⟩, ⟨_, hn', fun j y v' e1 e2 e3 => ?_⟩, fun y c e => ?_, I.free, I.freeC, fun p hp => ?_, tracked ⟨oL, hoL, I.free⟩ hs, by simpa using I.len⟩ ⟨_, hs, .inl rfl⟩
    · exact (hs.2 b (Nat.ne_of_lt (Nat.lt_of_lt_of_le (Heap.lt_size e) I.ok.above))).trans (I.base.keep b o e n hb hx)
    · obtain ⟨sl, e1⟩ := I.base.slot b o e n hb hx
      exact ⟨sl, (hs.2 b (Nat.ne_of_lt (Nat.lt_of_lt_of_le (Heap.lt_size e) I.ok.above))).trans e1⟩
    · obtain ⟨o', e1⟩ := I.base.there b o e hx
      exact ⟨o', (hs.2 b (Nat.ne_of_lt (Nat.lt_of_lt_of_le (Heap.lt_size e) I.ok.above))).trans e1⟩
    · by_cases hj : j = i
      · subst hj
        rw [hi] at e1; cases e1
        rw [List.getElem?_set_self hiσ] at e2
        cases e2
        exact ⟨u, r, .inl ⟨hk, by simp⟩⟩
      · rw [List.getElem?_set_ne (Ne.symm hj)] at e2
        obtain ⟨u', r', q⟩ := hl j y v' e1 e2 e3
        refine ⟨u', r', ?_⟩
        rcases q with ⟨k, e⟩ | ⟨k, c, e, z⟩
        · refine .inl ⟨k, ?_⟩
          have : y ≠ x := fun e => hj (nodup_ix hN e1 (e ▸ hi))
          simp [this, e]
        · exact .inr ⟨k, c, e, z.sameBut hs (cne y c e)⟩
    · obtain ⟨w', z⟩ := I.cell y c e
      exact ⟨w', z.sameBut hs (cne y c e)⟩
    · obtain ⟨e, n, ne, nf, d⟩ := I.pin p hp
      exact ⟨(hs.2 p.1 ne).trans e, n, ne, nf, d⟩
  · have hfn : X.fn x = true := by
      rcases hf with z | z
      · exact z
      · rw [z] at hk; cases hk
    obtain ⟨c, hc⟩ := I.ok.has x (.inl hk)
    obtain ⟨w', z⟩ := I.cell x c hc
    refine wpAny_storeName_cell I.ok.kind hk hc z (fun h' hc' hs => ?_)
    obtain ⟨oc, hoc, hocd⟩ := id z
    refine h { s with heap := h' } ⟨I.ok, I.os, I.bare, ⟨fun b o e n hb hx => ?_, fun b o e n hb hx => ?_, I.base.free, fun b o e hx => ?_, I.base.tups, I.base.frzs, I.base.tbls⟩, ⟨m, hn.sameBut hs (Ne.symm (cne x c hc)), fun j y v' e1 e2 e3 => ?_⟩, fun y c' e => ?_, I.free, I.freeC, fun p hp => ?_, tracked ⟨oc, hoc, I.freeC x c hc⟩ hs, by simpa using I.len⟩ ⟨c, hs, .inr hc⟩
    · exact (hs.2 b (Nat.ne_of_lt (Nat.lt_of_lt_of_le (Heap.lt_size e) (I.ok.cab x c hfn hc)))).trans (I.base.keep b o e n hb hx)
    · obtain ⟨sl, e1⟩ := I.base.slot b o e n hb hx
      exact ⟨sl, (hs.2 b (Nat.ne_of_lt (Nat.lt_of_lt_of_le (Heap.lt_size e) (I.ok.cab x c hfn hc)))).trans e1⟩
    · obtain ⟨o', e1⟩ := I.base.there b o e hx
      exact ⟨o', (hs.2 b (Nat.ne_of_lt (Nat.lt_of_lt_of_le (Heap.lt_size e) (I.ok.cab x c hfn hc)))).trans e1⟩
    · by_cases hj : j = i
      · subst hj
        rw [hi] at e1; cases e1
        rw [List.getElem?_set_self hiσ] at e2
        cases e2
        exact ⟨u, r, .inr ⟨.inl hk, c, hc, hc'⟩⟩
      · rw [List.getElem?_set_ne (Ne.symm hj)] at e2
        obtain ⟨u', r', q⟩ := hl j y v' e1 e2 e3
        refine ⟨u', r', ?_⟩
        rcases q with q | ⟨k, c', e, z'⟩
        · exact .inl q
        · refine .inr ⟨k, c', e, z'.sameBut hs ?_⟩
          rintro rfl
          exact hj (nodup_ix hN e1 (I.ok.inj _ _ _ e hc ▸ hi))
    · by_cases hcc : c' = c
      · subst hcc; exact ⟨_, hc'⟩
      · obtain ⟨w2, z2⟩ := I.cell y c' e
        exact ⟨w2, z2.sameBut hs hcc⟩
    · obtain ⟨e, n, ne, nf, d⟩ := I.pin p hp
      refine ⟨(hs.2 p.1 ?_).trans e, n, ne, nf, d⟩
      intro q
      rw [q, hoc] at e
      have q' : oc = p.2 := Option.some.inj e
      exact d w' (by rw [← q']; exact hocd)
theorem store_ok {M : Model} {A : Around} {E : Value → Shared → Prop} {i : Nat} {x : Str} {v : V} {u : Value} {Q : Unit → Shared → Prop} (I : Inv X pins σ H s) (hN : X.N.Nodup) (hi : X.N[i]? = some x) (hx : Loc X.env.scope x) (r : RelV v u)
    (h : ∀ s', Inv X pins (σ.set i (some v)) H s' → Q () s') (hf : X.fn x = true ∨ X.env.scope.names.lookup x = some .local := by first | exact .inl rfl | exact .inr rfl | assumption) : wpAny M A (storeName X.env x u) Q E s :=
  store_ok2 I hN hi hx r (fun s' I' _ => h s' I') hf
theorem Inv.call' {s' : Shared} {ch : List Addr} (I : Inv X pins σ H s) (ho : s'.os = s.os) (u : Un (frs X.stack) ch H H' s.heap s'.heap) (hok : HOk X.prog X.w H' s'.heap) (hg : AllBare s'.gens)
    (hch : ∀ b ∈ ch, (b ∈ X.ex ∨ X.s₀.heap.objs.size ≤ b) ∧ b ≠ X.env.locals ∧ (∀ x c, X.env.cells.lookup x = some c → c ≠ b) ∧ ∀ p ∈ X.pn ++ pins, p.1 ≠ b) : Inv X pins σ H' s' := by
  obtain ⟨h', g', d', t', o'⟩ := s'
  have e : o' = s.os := ho
  subst e
  exact I.call (g' := g') (t' := t') (d' := d') u hok hg hch
end
abbrev XK := Value → Option Addr → Hp → Prop
abbrev St := List (Option V)
abbrev VK := V → Hp → Prop
abbrev TE := St → Hp → VK → Prop
abbrev TT := St → Hp → (Bool → Hp → Prop) → Prop
abbrev TA := St → Hp → (List V → Hp → Prop) → Prop
structure Ends where
  nx : St → Hp → Prop
  rt : VK
  bk : St → Hp → Prop := fun _ _ => False
  ct : St → Hp → Prop := fun _ _ => False
abbrev TS := Ends → St → Hp → Prop
def EP (X : Cx) (pins : List (Addr × Obj)) (σ : St) (Q : VK) (u : Value) (s' : Shared) : Prop := ∃ v H', Inv X pins σ H' s' ∧ RelV v u ∧ Q v H'
def TP (X : Cx) (pins : List (Addr × Obj)) (σ : St) (Q : Bool → Hp → Prop) (b : Bool) (s' : Shared) : Prop := ∃ H', Inv X pins σ H' s' ∧ Q b H'
def AP (X : Cx) (pins : List (Addr × Obj)) (σ : St) (Q : List V → Hp → Prop) (us : List Value) (s' : Shared) : Prop := ∃ vs H', Inv X pins σ H' s' ∧ Vals vs us ∧ Q vs H'
def SP (X : Cx) (pins : List (Addr × Obj)) (D : Ends) (f : Flow) (s' : Shared) : Prop :=
  match f with
  | .next => ∃ σ' H', Inv X pins σ' H' s' ∧ D.nx σ' H'
  | .brk => ∃ σ' H', Inv X pins σ' H' s' ∧ D.bk σ' H'
  | .cont => ∃ σ' H', Inv X pins σ' H' s' ∧ D.ct σ' H'
  | .ret u => ∃ v σ' H', Inv X pins σ' H' s' ∧ RelV v u ∧ D.rt v H'
def PE (X : Cx) (e : Expr) (t : TE) : Prop :=
  ∀ (pins : List (Addr × Obj)) (s : Shared) (σ : St) (H : Hp) (Q : VK), Inv X pins σ H s → t σ H Q → wpAny (model X.prog X.w) X.A (eval e X.env) (EP X pins σ Q) X.xe s
def PT (X : Cx) (e : Expr) (t : TT) : Prop :=
  ∀ (pins : List (Addr × Obj)) (s : Shared) (σ : St) (H : Hp) (Q : Bool → Hp → Prop), Inv X pins σ H s → t σ H Q → wpAny (model X.prog X.w) X.A (isTrue e X.env (eval e X.env)) (TP X pins σ Q) X.xe s
def PW (X : Cx) (e : Expr) (t : TT) : Prop :=
  ∀ (whole : Sem Value) (pins : List (Addr × Obj)) (s : Shared) (σ : St) (H : Hp) (Q : Bool → Hp → Prop), Inv X pins σ H s → t σ H Q → wpAny (model X.prog X.w) X.A (isTrue e X.env whole) (TP X pins σ Q) X.xe s
theorem PW.pt {X : Cx} {e : Expr} {t : TT} (h : PW X e t) : PT X e t := h _
def PA (X : Cx) (es : List Expr) (t : TA) : Prop :=
  ∀ (pos : Pos) (pins : List (Addr × Obj)) (s : Shared) (σ : St) (H : Hp) (Q : List V → Hp → Prop), Inv X pins σ H s → t σ H Q → wpAny (model X.prog X.w) X.A (spliced (backTo pos (starEach es X.env))) (AP X pins σ Q) X.xe s
def PS (X : Cx) (st : Stmt) (t : TS) : Prop :=
  ∀ (pins : List (Addr × Obj)) (s : Shared) (σ : St) (H : Hp) (D : Ends), Inv X pins σ H s → t D σ H → wpAny (model X.prog X.w) X.A (exec st X.env) (SP X pins D) X.xe s
def PSs (X : Cx) (st : List Stmt) (t : TS) : Prop :=
  ∀ (pins : List (Addr × Obj)) (s : Shared) (σ : St) (H : Hp) (D : Ends), Inv X pins σ H s → t D σ H → wpAny (model X.prog X.w) X.A (execs st X.env) (SP X pins D) X.xe s
theorem thn {α : Type} {t : Sem α} {Q Q' : α → Shared → Prop} {M : Model} {A : Around} {E : Value → Shared → Prop} {s : Shared} (h : wpAny M A t Q E s) (hQ : ∀ a s, Q a s → Q' a s) : wpAny M A t Q' E s := wpAny_mono h hQ fun _ _ x => x
end L2
namespace L2
open PySem PySem.Spec PyProof.Rows
section
variable {X : Cx}
def tVar (i : Nat) : TE := fun σ H Q => ∃ v, σ[i]? = some (some v) ∧ Q v H
def tC (v : V) : TE := fun _ H Q => Q v H
theorem pe_var {i : Nat} {x : Str} {pos : Pos} (hN : X.N[i]? = some x) (hv : Vis X.env.scope x) (hd : (x == ("__debug__" : Str)) = false := by decide) (hcd : (x == ("__classdict__" : Str)) = false := by decide) : PE X (.Name x pos) (tVar i) := by
  intro pins s σ H Q I h
  obtain ⟨v, e, h⟩ := h
  obtain ⟨m, hn, hl⟩ := I.loc
  obtain ⟨u, r, l⟩ := hl i x v hN e hv
  have fin : EP X pins σ Q u s := ⟨v, H, I, r, h⟩
  rcases l with ⟨hk, hm⟩ | ⟨hk, c, hc, hcell⟩
  · exact wpAny_Name (wpAny_loadName_local I.ok.kind hk hn hm fin) hd
  · rcases hk with hk | hk
    · exact wpAny_Name (wpAny_loadName_cell I.ok.kind hk hc hcell fin) hd
    · exact wpAny_Name (wpAny_loadName_free I.ok.kind hk hc hcell fin hcd) hd
theorem pe_int {i j pos} : PE X (.Constant (.int i) j pos) (tC (.int i)) := fun _ _ _ H _ I h => wpAny_Constant_int ⟨.int i, H, I.tok _, ⟨_, rfl⟩, h⟩
theorem pe_bl {b j pos} : PE X (.Constant (.bool b) j pos) (tC (.bl b)) := fun _ _ _ H _ I h => Constant_bool ⟨.bl b, H, I, rfl, h⟩
theorem pe_non {j pos} : PE X (.Constant .none j pos) (tC .non) := fun _ _ _ H _ I h => Constant_none ⟨.non, H, I, rfl, h⟩
theorem pe_str {x j pos} : PE X (.Constant (.str x) j pos) (tC (.str x)) := fun _ _ _ H _ I h => Calls.Constant_str ⟨.str x, H, I.tok _, ⟨_, rfl⟩, h⟩
def Gl (X : Cx) (x : Str) : Prop := X.env.kindOf x = some .globalImplicit
theorem ld_glob {E : Value → Shared → Prop} {pins : List (Addr × Obj)} {s : Shared} {σ : St} {H : Hp} {x : Str} {u : Value} {pos : Pos} {Q : Value → Shared → Prop} (I : Inv X pins σ H s) (hg : Gl X x) (hm : X.mg x = some u) (h : Q u s)
    (hd : (x == ("__debug__" : Str)) = false := by decide) : wpAny (model X.prog X.w) X.A (eval (.Name x pos) X.env) Q E s :=
  Calls.Name_function_global I.ok.kind hg (Calls.loadGlobal_global (by rw [I.ok.glob]; exact I.mod.glob.keeps I.bk) hm h) hd
theorem ld_blt {E : Value → Shared → Prop} {pins : List (Addr × Obj)} {s : Shared} {σ : St} {H : Hp} {x : Str} {u : Value} {pos : Pos} {Q : Value → Shared → Prop} (I : Inv X pins σ H s) (hg : Gl X x) (hm : X.mg x = none) (hv : bootBuiltins x = some u) (h : Q u s)
    (hn : x ≠ "__name__" := by decide) (hd : (x == ("__debug__" : Str)) = false := by decide) : wpAny (model X.prog X.w) X.A (eval (.Name x pos) X.env) Q E s := by
  obtain ⟨mb, h1, h2⟩ := I.mod.blt
  exact Calls.Name_function_global I.ok.kind hg (Calls.loadGlobal_builtin (by rw [I.ok.glob]; exact I.mod.glob.keeps I.bk) hm (by rw [I.ok.blt]; exact h1.keeps I.bk) ((h2 x hn).trans hv) h) hd
theorem pe_glob {x : Str} {v : V} {u : Value} {pos : Pos} (hg : Gl X x) (hm : X.mg x = some u) (r : RelV v u) (hd : (x == ("__debug__" : Str)) = false := by decide) : PE X (.Name x pos) (tC v) :=
  fun _ _ _ H _ I h => ld_glob I hg hm ⟨v, H, I, r, h⟩ hd
theorem pe_bltn {x : Str} {v : V} {u : Value} {pos : Pos} (hg : Gl X x) (hm : X.mg x = none) (hv : bootBuiltins x = some u) (r : RelV v u) (hn : x ≠ "__name__" := by decide) (hd : (x == ("__debug__" : Str)) = false := by decide) : PE X (.Name x pos) (tC v) :=
  fun _ _ _ H _ I h => ld_blt I hg hm hv ⟨v, H, I, r, h⟩ hn hd
variable {a b : Expr} {ta tb : TE} {pos : Pos}
theorem nobehind (b : Expr) {op : CmpOp} (h : op ≠ .In) (h2 : op ≠ .NotIn) : behindInMarks op b = false := by
  have e1 : (op == CmpOp.In) = false := by cases op <;> first | rfl | exact absurd rfl h
  have e2 : (op == CmpOp.NotIn) = false := by cases op <;> first | rfl | exact absurd rfl h2
  cases b <;> simp [behindInMarks, e1, e2]
def tB (t : TE) : TT := fun σ H Q => t σ H fun x H1 => ∃ c, x = .bl c ∧ Q c H1
theorem pt_val {e : Expr} {t : TE} (h : PE X e t) (he : ∀ whole, isTrue e X.env whole = (do let v ← whole; standAt e.pos; holding [v] (truthy v)) := by intro _; rfl) : PT X e (tB t) := by
  intro pins s σ H Q I hw
  refine isTrue_plain (thn (h pins s σ H _ I hw) fun v s1 ⟨x, H1, I1, r1, q1⟩ => ?_) (he _)
  obtain ⟨d, rfl, q⟩ := q1
  cases r1
  exact wpAny_truthy_bool ⟨H1, I1, q⟩
variable {tA tB' : TT} {rest : List Expr}
def tAnd (t u : TT) : TT := fun σ H Q => t σ H fun c H1 => if c = true then u σ H1 Q else Q false H1
def tOr (t u : TT) : TT := fun σ H Q => t σ H fun c H1 => if c = true then Q true H1 else u σ H1 Q
def tNot (t : TT) : TT := fun σ H Q => t σ H fun c H1 => Q (!c) H1
theorem pw_and1 (ha : PT X a tA) : PW X (.BoolOp .And [a] pos) tA := by
  intro wh pins s σ H Q I h
  refine isTrue_and (thn (ha pins s σ H Q I h) fun c s1 e => ?_)
  cases c with
  | true => exact isTrue_and_nil e
  | false => exact e
theorem pw_or1 (ha : PT X a tA) : PW X (.BoolOp .Or [a] pos) tA := by
  intro wh pins s σ H Q I h
  refine isTrue_or (thn (ha pins s σ H Q I h) fun c s1 e => ?_)
  cases c with
  | false => exact isTrue_or_nil e
  | true => exact e
theorem pw_and (ha : PT X a tA) (hb : PW X (.BoolOp .And (b :: rest) pos) tB') : PW X (.BoolOp .And (a :: b :: rest) pos) (tAnd tA tB') := by
  intro wh pins s σ H Q I h
  refine isTrue_and (thn (ha pins s σ H _ I h) fun c s1 ⟨H1, I1, q1⟩ => ?_)
  cases c with
  | true => exact hb wh pins s1 σ H1 Q I1 q1
  | false => exact ⟨H1, I1, q1⟩
theorem pw_or (ha : PT X a tA) (hb : PW X (.BoolOp .Or (b :: rest) pos) tB') : PW X (.BoolOp .Or (a :: b :: rest) pos) (tOr tA tB') := by
  intro wh pins s σ H Q I h
  refine isTrue_or (thn (ha pins s σ H _ I h) fun c s1 ⟨H1, I1, q1⟩ => ?_)
  cases c with
  | true => exact ⟨H1, I1, q1⟩
  | false => exact hb wh pins s1 σ H1 Q I1 q1
theorem pt_not (ha : PT X a tA) : PT X (.UnaryOp .Not a pos) (tNot tA) := by
  intro pins s σ H Q I h
  exact isTrue_not (ha pins s σ H (fun c H1 => Q (!c) H1) I h)
def tAndV (ta tb : TE) : TE := fun σ H Q => ta σ H fun x H1 => ∃ c, x = .bl c ∧ if c = true then tb σ H1 Q else Q (.bl false) H1
def tNotV (ta : TE) : TE := fun σ H Q => ta σ H fun x H1 => ∃ c, x = .bl c ∧ Q (.bl (!c)) H1
theorem pe_one {op} {t : TE} (h : PE X a t) : PE X (.BoolOp op [a] pos) t := fun pins s σ H Q I hw => BoolOp_one (h pins s σ H Q I hw)
theorem pe_and (ha : PE X a ta) (hb : PE X (.BoolOp .And (b :: rest) pos) tb) : PE X (.BoolOp .And (a :: b :: rest) pos) (tAndV ta tb) := by
  intro pins s σ H Q I h
  refine BoolOp_and (thn (ha pins s σ H _ I h) fun v s1 ⟨x, H1, I1, r1, q1⟩ => ?_)
  obtain ⟨c, rfl, q1⟩ := q1
  cases r1
  refine wpAny_truthy_bool ?_
  cases c with
  | true => exact hb pins s1 σ H1 Q I1 q1
  | false => exact ⟨.bl false, H1, I1, rfl, q1⟩
theorem pe_not (ha : PE X a ta) : PE X (.UnaryOp .Not a pos) (tNotV ta) := by
  intro pins s σ H Q I h
  refine UnaryOp_ (thn (ha pins s σ H _ I h) fun v s1 ⟨x, H1, I1, r1, q1⟩ => ?_)
  obtain ⟨c, rfl, q1⟩ := q1
  cases r1
  exact not_of (wpAny_truthy_bool ⟨.bl (!c), H1, I1, rfl, q1⟩)
end
end L2
namespace L2
open PySem PySem.Spec PyProof.Rows
def SqL (K : PySem.W.Frag) (H : Hp) (a : Addr) (xs : List V) : Prop :=
  Rd H a (.lst xs) ∨
    ∃ (o : Obj) (its : Array Value) (n : Nat), K.lookup a = some o ∧ o.cls = .type "list" ∧ o.dict = none ∧ o.data = .seq its n ∧ its.size ≤ sizeLine ∧ Vals xs its.toList
def SqT (K : PySem.W.Frag) (H : Hp) (a : Addr) (xs : List V) : Prop :=
  Rd H a (.tup xs) ∨
    ∃ (o : Obj) (its : Array Value) (n : Nat), K.lookup a = some o ∧ o.cls = .type "tuple" ∧ o.data = .seq its n ∧ its.size ≤ sizeLine ∧ Vals xs its.toList
def absV : Value → Option V
  | .none => some .non
  | .bool b => some (.bl b)
  | .int i _ => some (.int i)
  | .str x _ => some (.str x)
  | .bytes b _ => some (.byt b)
  | .float b _ => some (.flt b)
  | .ref a => some (.ref a)
  | .type n => some (.ty n)
  | _ => none
theorem RelV.abs {x : V} {u : Value} (r : RelV x u) : absV u = some x := by
  cases x with
  | non => cases r; rfl
  | bl _ => cases r; rfl
  | int _ => obtain ⟨t, rfl⟩ := r; rfl
  | str _ => obtain ⟨t, rfl⟩ := r; rfl
  | byt _ => obtain ⟨t, rfl⟩ := r; rfl
  | flt _ => obtain ⟨t, rfl⟩ := r; rfl
  | ref _ => cases r; rfl
  | ty _ => cases r; rfl
theorem RelV.inj {x y : V} {u : Value} (r : RelV x u) (q : RelV y u) : x = y := Option.some.inj (r.abs.symm.trans q.abs)
theorem Vals.inj : ∀ {xs ys : List V} {us : List Value}, Vals xs us → Vals ys us → xs = ys
  | _, _, _, .nil, .nil => rfl
  | _, _, _, .cons r t, .cons r' t' => by rw [r.inj r', Vals.inj t t']
section
variable {X : Cx} {pins : List (Addr × Obj)} {σ : St} {H : Hp} {s : Shared} {a : Addr} {xs ys : List V}
theorem SqL.of {K : PySem.W.Frag} (h : H a = some (.lst xs)) : SqL K H a xs := .inl (.inl h)
theorem SqT.of {K : PySem.W.Frag} (h : H a = some (.tup xs)) : SqT K H a xs := .inl (.inl h)
theorem Inv.list (I : Inv X pins σ H s) (h : SqL X.K H a xs) : ∃ its : List Value, Vals xs its ∧ PlainL s.heap a its.toArray ∧ xs.length ≤ sizeLine := by
  rcases h with h | ⟨o, its, n, hk, hc, hd, hs, hz, r⟩
  · obtain ⟨z, its, n, r, e⟩ := h.ok I.hok
    exact ⟨its, r, ⟨_, n, e, rfl, rfl, rfl⟩, z⟩
  · refine ⟨its.toList, r, ⟨o, n, I.kIn a o hk, hc, hd, by simpa using hs⟩, ?_⟩
    have e := r.length
    simp only [Array.length_toList] at e
    omega
theorem Inv.tuple (I : Inv X pins σ H s) (h : SqT X.K H a xs) : ∃ its : List Value, Vals xs its ∧ IsTup s.heap a its.toArray ∧ xs.length ≤ sizeLine := by
  rcases h with h | ⟨o, its, n, hk, hc, hs, hz, r⟩
  · obtain ⟨z, its, r, p⟩ := h.ok I.hok
    exact ⟨its, r, p, z⟩
  · refine ⟨its.toList, r, ⟨o, I.kIn a o hk, hc, n, by simpa using hs⟩, ?_⟩
    have e := r.length
    simp only [Array.length_toList] at e
    omega
theorem Inv.list_inj (I : Inv X pins σ H s) (h : SqL X.K H a xs) (h' : SqL X.K H a ys) : xs = ys := by
  obtain ⟨its, r, ⟨o, n, e, _, _, d⟩, _⟩ := I.list h
  obtain ⟨its', r', ⟨o', n', e', _, _, d'⟩, _⟩ := I.list h'
  rw [e] at e'; cases e'
  rw [d] at d'
  injection d' with d1 _
  have : its = its' := by simpa using congrArg Array.toList d1
  subst this
  exact r.inj r'
theorem Inv.tuple_inj (I : Inv X pins σ H s) (h : SqT X.K H a xs) (h' : SqT X.K H a ys) : xs = ys := by
  obtain ⟨its, r, ⟨o, e, _, n, d⟩, _⟩ := I.tuple h
  obtain ⟨its', r', ⟨o', e', _, n', d'⟩, _⟩ := I.tuple h'
  rw [e] at e'; cases e'
  rw [d] at d'
  injection d' with d1 _
  have : its = its' := by simpa using congrArg Array.toList d1
  subst this
  exact r.inj r'
end
abbrev Cx.wish (X : Cx) (E : Value → Shared → Prop) : Cx := { X with xe := E }
abbrev Cx.nox (X : Cx) : Cx := X.wish fun _ _ => False
theorem Cx.Ok.wish {X : Cx} (ok : X.Ok) (E : Value → Shared → Prop) : (X.wish E).Ok :=
  ⟨ok.mod, ok.kind, ok.glob, ok.blt, ok.above, ok.inj, ok.has, ok.cab, ok.hd, ok.frames, ok.stk, ok.exf, ok.bs, ok.bsz, ok.noex, ok.exfs, ok.funs, ok.frf⟩
theorem Cx.Ok.unwish {X : Cx} {E : Value → Shared → Prop} (ok : (X.wish E).Ok) : X.Ok :=
  ⟨ok.mod, ok.kind, ok.glob, ok.blt, ok.above, ok.inj, ok.has, ok.cab, ok.hd, ok.frames, ok.stk, ok.exf, ok.bs, ok.bsz, ok.noex, ok.exfs, ok.funs, ok.frf⟩
section
variable {X : Cx} {pins : List (Addr × Obj)} {σ : St} {H : Hp} {s : Shared} {E : Value → Shared → Prop}
theorem Inv.wish (I : Inv X pins σ H s) (E : Value → Shared → Prop) : Inv (X.wish E) pins σ H s := ⟨I.ok.wish E, I.os, I.bare, I.base, I.loc, I.cell, I.free, I.freeC, I.pin, I.hok, I.len⟩
theorem Inv.unwish (I : Inv (X.wish E) pins σ H s) : Inv X pins σ H s := ⟨I.ok.unwish, I.os, I.bare, I.base, I.loc, I.cell, I.free, I.freeC, I.pin, I.hok, I.len⟩
theorem SP.unwish {D : Ends} {f : Flow} {s' : Shared} (h : SP (X.wish E) pins D f s') : SP X pins D f s' := by
  cases f with
  | next => obtain ⟨σ', H', I, q⟩ := h; exact ⟨σ', H', I.unwish, q⟩
  | brk => obtain ⟨σ', H', I, q⟩ := h; exact ⟨σ', H', I.unwish, q⟩
  | cont => obtain ⟨σ', H', I, q⟩ := h; exact ⟨σ', H', I.unwish, q⟩
  | ret u => obtain ⟨v, σ', H', I, r, q⟩ := h; exact ⟨v, σ', H', I.unwish, r, q⟩
theorem PSs.nox {st : List Stmt} {t : TS} (h : PSs X.nox st t) : PSs X st t := fun pins s σ H D I hw =>
  wpAny_mono (h pins s σ H D (I.wish _) hw) (fun _ _ q => q.unwish) fun _ _ z => False.elim z
end
section
variable {X : Cx} {st : Stmt} {rest : List Stmt} {t u : TS} {e : Expr} {te : TE} {pos : Pos}
def tNext : TS := fun D σ H => D.nx σ H
def tSeq (t u : TS) : TS := fun D σ H => t { D with nx := u D } σ H
theorem pss_nil : PSs X [] tNext := fun _ _ σ H _ I h => wpAny_execs_nil ⟨σ, H, I, h⟩
theorem pss_cons (h1 : PS X st t) (h2 : PSs X rest u) : PSs X (st :: rest) (tSeq t u) := by
  intro pins s σ H D I h
  refine wpAny_execs_cons (thn (h1 pins s σ H { D with nx := u D } I h) fun f s1 q => ?_)
  cases f with
  | next =>
    obtain ⟨σ', H', I', q⟩ := q
    exact h2 pins s1 σ' H' D I' q
  | ret v => exact q
  | brk => exact q
  | cont => exact q
theorem pss_one (h1 : PS X st t) : PSs X [st] t := by
  intro pins s σ H D I h
  refine wpAny_execs_cons (thn (h1 pins s σ H D I h) fun f s1 q => ?_)
  cases f with
  | next => exact wpAny_execs_nil q
  | ret v => exact q
  | brk => exact q
  | cont => exact q
theorem Inv.quiet {pins : List (Addr × Obj)} {σ : St} {H : Hp} {s : Shared} (I : Inv X pins σ H s) : interactive X.env = false := by simp [interactive, I.ok.kind]
def tDrop (te : TE) : TS := fun D σ H => te σ H fun _ H1 => D.nx σ H1
theorem ps_expr (he : PE X e te) (hs : swapsWith e none pos.line X.env = pure false := by rfl) : PS X (.Expr e pos) (tDrop te) := by
  intro pins s σ H D I h
  exact wpAny_Expr_any (thn (he pins s σ H _ I h) fun v s1 ⟨x, H1, I1, r1, q1⟩ => ⟨σ, H1, I1, q1⟩) I.quiet hs
def tRet (te : TE) : TS := fun D σ H => te σ H D.rt
theorem ps_ret (he : PE X e te) : PS X (.Return (some e) pos) (tRet te) := by
  intro pins s σ H D I h
  exact wpAny_Return_some (thn (he pins s σ H _ I h) fun v s1 ⟨x, H1, I1, r1, q1⟩ => ⟨x, σ, H1, I1, r1, q1⟩)
def tIfS (c : TT) (t u : TS) : TS := fun D σ H => c σ H fun b H1 => if b = true then t D σ H1 else u D σ H1
theorem ps_if {c : Expr} {a b : List Stmt} {tc : TT} (hc : PT X c tc) (ha : PSs X a t) (hb : PSs X b u) : PS X (.If c a b pos) (tIfS tc t u) := by
  intro pins s σ H D I h
  refine wpAny_If (thn (hc pins s σ H _ I h) fun d s1 ⟨H1, I1, q1⟩ => ?_)
  cases d with
  | true => exact ha pins s1 σ H1 D I1 q1
  | false => exact hb pins s1 σ H1 D I1 q1
end
abbrev TG := V → St → Hp → (St → Hp → Prop) → Prop
abbrev TGs := List V → St → Hp → (St → Hp → Prop) → Prop
def PG (X : Cx) (target : Expr) (t : TG) : Prop :=
  ∀ (pins : List (Addr × Obj)) (s : Shared) (σ : St) (H : Hp) (v : V) (u : Value) (Q : St → Hp → Prop), Inv X pins σ H s → RelV v u → t v σ H Q →
    wpAny (model X.prog X.w) X.A (assign target X.env u) (fun _ s' => ∃ σ' H', Inv X pins σ' H' s' ∧ Q σ' H') X.xe s
def PGs (X : Cx) (ts : List Expr) (t : TGs) : Prop :=
  ∀ (pins : List (Addr × Obj)) (s : Shared) (σ : St) (H : Hp) (vs : List V) (us : List Value) (Q : St → Hp → Prop), Inv X pins σ H s → Vals vs us → t vs σ H Q →
    wpAny (model X.prog X.w) X.A (assignInOrder ((assignEach ts X.env).map (·.2)) us) (fun _ s' => ∃ σ' H', Inv X pins σ' H' s' ∧ Q σ' H') X.xe s
section
variable {X : Cx} {pos : Pos}
def gName (i : Nat) : TG := fun v σ H Q => Q (σ.set i (some v)) H
theorem pg_name {i : Nat} {x : Str} (hN : X.N.Nodup) (hi : X.N[i]? = some x) (hx : Loc X.env.scope x) (hf : X.fn x = true ∨ X.env.scope.names.lookup x = some .local := by first | exact .inl rfl | exact .inr rfl | assumption) : PG X (.Name x pos) (gName i) := by
  intro pins s σ H v u Q I r h
  exact wpAny_assign_Name (store_ok I hN hi hx r (fun s' I' => ⟨_, H, I', h⟩) hf)
def gNil : TGs := fun vs σ H Q => vs = [] ∧ Q σ H
def gCons (t : TG) (u : TGs) : TGs := fun vs σ H Q => ∃ v r, vs = v :: r ∧ t v σ H fun σ' H' => u r σ' H' Q
theorem pgs_nil : PGs X [] gNil := by
  intro pins s σ H vs us Q I r h
  obtain ⟨e, h⟩ := h
  subst e
  cases r
  exact assignInOrder_nil ⟨σ, H, I, h⟩
theorem pgs_cons {e : Expr} {es : List Expr} {t : TG} {u : TGs} (h1 : PG X e t) (h2 : PGs X es u)
    (hs : (assignEach (e :: es) X.env).map (·.2) = assign e X.env :: (assignEach es X.env).map (·.2) := by rfl) : PGs X (e :: es) (gCons t u) := by
  intro pins s σ H vs us Q I r h
  obtain ⟨v, vr, e1, h⟩ := h
  subst e1
  cases r with
  | cons r rr =>
    rw [hs]
    refine assignInOrder_cons (thn (h1 pins s σ H _ _ _ I r h) fun _ s1 ⟨σ1, H1, I1, q1⟩ => ?_)
    exact h2 pins s1 σ1 H1 _ _ Q I1 rr q1
def gTup (K : PySem.W.Frag) (n : Nat) (t : TGs) : TG := fun v σ H Q => ∃ a xs, v = .ref a ∧ SqT K H a xs ∧ xs.length = n ∧ t xs σ H Q
theorem pg_tup {es : List Expr} {k : Nat} {t : TGs} {n : Nat} (hc : X.calm = true) (h : PGs X es t)
    (hn : (assignEach es X.env).length = n := by rfl) (hst : (assignEach es X.env).findIdx? (·.1) = none := by rfl) : PG X (.Tuple es k pos) (gTup X.K n t) := by
  intro pins s σ H v u Q I r hw
  obtain ⟨a, xs, e1, hq, hl, hw⟩ := hw
  subst e1
  cases r
  obtain ⟨its, rv, ht, hz⟩ := I.tuple hq
  refine assign_Tuple_tuple (I.ok.hd hc) ht (by simp [hn, ← hl, rv.length]) hst fun h' hx => ?_
  have I1 : Inv X pins σ H { s with heap := h' } := I.kept (t' := s.toks) fun b o e => hx b o (Nat.ne_of_lt (Heap.lt_size e)) e
  exact h pins _ σ H xs _ Q I1 (by simpa using rv) hw
def tAsg (te : TE) (g : TG) : TS := fun D σ H => te σ H fun x H1 => g x σ H1 D.nx
theorem ps_asg {tg e : Expr} {te : TE} {g : TG} (he : PE X e te) (hg : PG X tg g) (hs : swapsWithSole [tg] e pos.line X.env = pure false := by rfl) (hw : swappedStores [tg] e X.env = pure none := by rfl)
    (h1 : (assignEach [tg] X.env).map (·.2) = [assign tg X.env] := by rfl) : PS X (.Assign [tg] e pos) (tAsg te g) := by
  intro pins s σ H D I h
  refine wpAny_Assign_stores (thn (he pins s σ H _ I h) fun v s1 ⟨x, H1, I1, r1, q1⟩ => ?_) hs hw
  rw [h1]
  exact thn (hg pins s1 σ H1 x v _ I1 r1 q1) fun _ s2 q => q
theorem ps_set {i : Nat} {x : Str} {e : Expr} {te : TE} {pos' : Pos} (hN : X.N.Nodup) (hi : X.N[i]? = some x) (hx : Loc X.env.scope x) (he : PE X e te) (hs : swapsWith e (some (.Name x pos')) pos.line X.env = pure false := by rfl) (hf : X.fn x = true ∨ X.env.scope.names.lookup x = some .local := by first | exact .inl rfl | exact .inr rfl | assumption) :
    PS X (.Assign [.Name x pos'] e pos) (tAsg te (gName i)) := by
  intro pins s σ H D I h
  refine wpAny_Assign_Name (thn (he pins s σ H _ I h) fun v s1 ⟨y, H1, I1, r1, q1⟩ => ?_) hs
  exact store_ok I1 hN hi hx r1 (fun s2 I2 => ⟨_, H1, I2, q1⟩) hf
end
section
variable {X : Cx} {pos : Pos}
def tWhile (c : TT) (tb : TS) : TS := fun D σ H => ∃ W : Nat → St → Hp → Prop, (∃ m, W m σ H) ∧ ∀ m σ H, W m σ H →
  c σ H fun b H1 => if b = true then ∃ N : St → Hp → Prop, (∀ σ' H', N σ' H' → ∃ m', m' < m ∧ W m' σ' H') ∧ tb { D with nx := N, ct := N, bk := D.nx } σ H1 else D.nx σ H1
theorem ps_while {c : Expr} {body : List Stmt} {tc : TT} {tb : TS} (hp : PassesOwn (model X.prog X.w) X.A X.env X.xe) (hc : PT X c tc) (hb : PSs X body tb) : PS X (.While c body [] pos) (tWhile tc tb) := by
  intro pins s σ H D I h
  obtain ⟨W, ⟨m0, w0⟩, turn⟩ := h
  refine wpAny_While (codeAny_whileLoop (fun n s' => ∃ σ' H', Inv X pins σ' H' s' ∧ W n σ' H') ?_ m0 ⟨σ, H, I, w0⟩)
  rintro n s1 ⟨σ1, H1, I1, w1⟩
  refine wpAny_passesOwn hp (thn (hc pins s1 σ1 H1 _ I1 (turn n σ1 H1 w1)) fun b s2 ⟨H2, I2, q2⟩ => ?_)
  cases b with
  | true =>
    obtain ⟨N, hN, q2⟩ := q2
    rw [if_pos rfl]
    refine wpAny_passesOwn hp (thn (hb pins s2 σ1 H2 _ I2 q2) fun f s3 q3 => ?_)
    cases f with
    | next =>
      obtain ⟨σ3, H3, I3, n3⟩ := q3
      obtain ⟨m', hm, w3⟩ := hN σ3 H3 n3
      exact ⟨m', hm, σ3, H3, I3, w3⟩
    | cont =>
      obtain ⟨σ3, H3, I3, n3⟩ := q3
      obtain ⟨m', hm, w3⟩ := hN σ3 H3 n3
      exact ⟨m', hm, σ3, H3, I3, w3⟩
    | brk => exact q3
    | ret v => exact q3
  | false =>
    rw [if_neg Bool.false_ne_true]
    exact wpAny_execs_nil ⟨σ1, H2, I2, q2⟩
end
structure It where
  go : Nat → Hp → Prop
  yld : Nat → Hp → V → Hp → Prop
  stop : Nat → Hp → Prop
def FpOk (X : Cx) (pins : List (Addr × Obj)) (H : Hp) (b : Addr) : Prop :=
  H b = none ∧ b ≠ X.env.locals ∧ b ∉ X.fs ∧ (b ∈ X.ex ∨ X.s₀.heap.objs.size ≤ b) ∧ (∀ x c, X.env.cells.lookup x = some c → c ≠ b) ∧ ∀ p ∈ X.pn ++ pins, p.1 ≠ b
theorem Inv.fpOk {X : Cx} {pins : List (Addr × Obj)} {σ : St} {H H' : Hp} {s : Shared} {b : Addr} (I : Inv X pins σ H s) (hb : s.heap.objs.size ≤ b) (hn : H' b = none) : FpOk X pins H' b := by
  refine ⟨hn, Nat.ne_of_gt (Nat.lt_of_lt_of_le I.lt hb), I.nofs hb, .inr (Nat.le_trans I.sz hb), fun x c e z => ?_, fun p hp z => ?_⟩
  · obtain ⟨v, q⟩ := I.cell x c e
    exact absurd (Nat.lt_of_lt_of_le q.lt (by rw [z]; exact hb)) (Nat.lt_irrefl _)
  · exact absurd (Nat.lt_of_lt_of_le (Heap.lt_size (I.pin p hp).1) (by rw [z]; exact hb)) (Nat.lt_irrefl _)
structure Turn (P : Program) (w : World) (K : PySem.W.Frag) (tg : Expr) (J : It) (fp : List Addr) (it : Addr) (tn : Nat → Heap → Prop) : Prop where
  mem : it ∈ fp
  obj : ∀ i h, tn i h → ∀ b ∈ fp, ∃ o, h.get? b = some o ∧ ∀ v, o.data ≠ .cell v
  keep : ∀ i h h', tn i h → (∀ b ∈ fp, ∀ o, h.get? b = some o → h'.get? b = some o) → tn i h'
  item : ∀ (X : Cx), X.prog = P → X.w = w → X.K = K → X.calm = true → ∀ (i : Nat) (pins : List (Addr × Obj)) (s : Shared) (σ : St) (H : Hp) (E : Value → Shared → Prop), Inv X pins σ H s → (∀ b ∈ fp, FpOk X pins H b) → tn i s.heap → J.go i H →
    wpAny (model P w) X.A (pyNext (.ref it)) (fun r s1 => ∃ u, r = some u ∧
      wpAny (model P w) X.A (letOwnedTupleGo tg (.ref it) u) (fun _ s2 => ∃ x H', Inv X pins σ H' s2 ∧ RelV x u ∧ J.yld i H x H' ∧ tn (i + 1) s2.heap ∧ ∀ b ∈ fp, H' b = none) E s1) E s
  done : ∀ (X : Cx), X.prog = P → X.w = w → X.K = K → X.calm = true → ∀ (i : Nat) (pins : List (Addr × Obj)) (s : Shared) (σ : St) (H : Hp) (E : Value → Shared → Prop), Inv X pins σ H s → (∀ b ∈ fp, FpOk X pins H b) → tn i s.heap → J.stop i H →
    wpAny (model P w) X.A (pyNext (.ref it)) (fun r s1 => r = none ∧ Inv X pins σ H s1) E s
  self : ∀ (A : Around) (i : Nat) (s : Shared) (Q : Value → Shared → Prop) (E : Value → Shared → Prop), tn i s.heap → Q (.ref it) s → wpAny (model P w) A (pyIter (.ref it)) Q E s
abbrev TI := St → Hp → (It → Hp → Prop) → Prop
def PIE (X : Cx) (pins : List (Addr × Obj)) (σ : St) (tg : Expr) (R : It → Hp → Prop) (itv : Value) (s2 : Shared) : Prop :=
  ∃ (it : Addr) (fp : List Addr) (tn : Nat → Heap → Prop) (J : It) (H' : Hp), itv = .ref it ∧ Inv X pins σ H' s2 ∧ Turn X.prog X.w X.K tg J fp it tn ∧ tn 0 s2.heap ∧ (∀ b ∈ fp, FpOk X pins H' b) ∧ R J H'
def PI (X : Cx) (tg iter : Expr) (wi : TI) : Prop :=
  ∀ (pins : List (Addr × Obj)) (s : Shared) (σ : St) (H : Hp) (R : It → Hp → Prop), Inv X pins σ H s → wi σ H R →
    wpAny (model X.prog X.w) X.A (eval iter X.env) (fun v s1 => wpAny (model X.prog X.w) X.A (pyIter v) (PIE X pins σ tg R) X.xe s1) X.xe s
theorem go_of {M : Model} {A : Around} {E : Value → Shared → Prop} {s : Shared} {tg : Expr} {it : Addr} {u : Value} {o : Obj} {n : String} {vs : Array Value} {Q : Unit → Shared → Prop} (ho : s.heap.get? it = some o) (hc : o.cls = .type n) (hd : o.data = .fields vs)
    (hn : ["enumerate", "zip", "dict_itemiterator", "dict_reverseitemiterator", "odict_iterator", "itertools.zip_longest", "itertools.pairwise"].contains n = false) (hQ : Q () s) : wpAny M A (letOwnedTupleGo tg (.ref it) u) Q E s := by
  unfold letOwnedTupleGo
  cases tg <;> first
    | exact wpAny_pure hQ
    | (cases u <;> first
        | exact wpAny_pure hQ
        | (refine wpAny_bind (wpAny_load ho ?_)
           rw [hc, hd]
           show wpAny M A (if (["enumerate", "zip", "dict_itemiterator", "dict_reverseitemiterator", "odict_iterator", "itertools.zip_longest", "itertools.pairwise"].contains n && vs[0]? == some (rawInt _)) = true then _ else _) Q E s
           rw [if_neg (by intro h; rw [hn, Bool.false_and] at h; cases h)]
           exact wpAny_pure hQ))
def Itl (K : PySem.W.Frag) (a : Addr) : It :=
  ⟨fun i H => ∃ xs x, SqL K H a xs ∧ xs[i]? = some x, fun i H x H' => H' = H ∧ ∀ xs, SqL K H a xs → xs[i]? = some x, fun i H => ∃ xs, SqL K H a xs ∧ xs.length ≤ i⟩
def Itt (K : PySem.W.Frag) (a : Addr) : It :=
  ⟨fun i H => ∃ xs x, SqT K H a xs ∧ xs[i]? = some x, fun i H x H' => H' = H ∧ ∀ xs, SqT K H a xs → xs[i]? = some x, fun i H => ∃ xs, SqT K H a xs ∧ xs.length ≤ i⟩
def Itr (lo : Int) (n : Nat) : It := ⟨fun i _ => i < n, fun i H x H' => H' = H ∧ x = .int (lo + i), fun i _ => n ≤ i⟩
theorem turn_list {P : Program} {w : World} {K : PySem.W.Frag} {tg : Expr} (a it : Addr) : Turn P w K tg (Itl K a) [it] it (fun i h => h.IsListIter it a i) where
  mem := by simp
  obj := fun i h st b hb => by
    have e : b = it := by simpa using hb
    subst e
    obtain ⟨o, e, c, d⟩ := st
    exact ⟨o, e, fun v z => by rw [d] at z; cases z⟩
  keep := fun i h h' st k => st.at fun o e => k it (by simp) o e
  item := by
    intro X hP hw hK hc i pins s σ H E I hf st hg
    subst hP hw hK
    obtain ⟨xs, x, hq, hx⟩ := hg
    obtain ⟨its, rv, p, hz⟩ := I.list hq
    obtain ⟨u, hu, ru⟩ := rv.get hx
    obtain ⟨f0, f1, f2, f3, f4, f5⟩ := hf it (by simp)
    refine wpAny_pyNext_list_item st p.isList (x := u) (by simpa using hu) fun h' st' sb => ?_
    have I1 : Inv X pins σ H { s with heap := h' } := I.turned (t' := s.toks) (fun b o hb e => (sb.2 b hb).trans e) f0 f1 f3 f4 f5
    obtain ⟨o, e, c, d⟩ := id st'
    exact ⟨u, rfl, go_of (s := { s with heap := h' }) e c d (by decide) ⟨x, H, I1, ru, ⟨rfl, fun ys hy => by rw [I.list_inj hy hq]; exact hx⟩, st', fun b hb => (hf b hb).1⟩⟩
  done := by
    intro X hP hw hK hc i pins s σ H E I hf st hg
    subst hP hw hK
    obtain ⟨xs, hq, hx⟩ := hg
    obtain ⟨its, rv, p, hz⟩ := I.list hq
    obtain ⟨f0, f1, f2, f3, f4, f5⟩ := hf it (by simp)
    have hl := rv.length
    exact wpAny_pyNext_list_end (I.ok.hd hc) st p.isList (by simp; omega) fun h' eb => ⟨rfl, I.turned (t' := s.toks) (fun b o hb e => eb b o hb e) f0 f1 f3 f4 f5⟩
  self := fun _ _ _ _ _ st h => wpAny_pyIter_listiter st h
theorem turn_tuple {P : Program} {w : World} {K : PySem.W.Frag} {tg : Expr} (a it : Addr) : Turn P w K tg (Itt K a) [it] it (fun i h => h.IsTupleIter it a i) where
  mem := by simp
  obj := fun i h st b hb => by
    have e : b = it := by simpa using hb
    subst e
    obtain ⟨o, e, c, d⟩ := st
    exact ⟨o, e, fun v z => by rw [d] at z; cases z⟩
  keep := fun i h h' st k => st.at fun o e => k it (by simp) o e
  item := by
    intro X hP hw hK hc i pins s σ H E I hf st hg
    subst hP hw hK
    obtain ⟨xs, x, hq, hx⟩ := hg
    obtain ⟨its, rv, p, hz⟩ := I.tuple hq
    obtain ⟨u, hu, ru⟩ := rv.get hx
    obtain ⟨f0, f1, f2, f3, f4, f5⟩ := hf it (by simp)
    refine wpAny_pyNext_tuple_item st (show s.heap.IsTuple a its.toArray from p) (x := u) (by simpa using hu) fun h' st' sb => ?_
    have I1 : Inv X pins σ H { s with heap := h' } := I.turned (t' := s.toks) (fun b o hb e => (sb.2 b hb).trans e) f0 f1 f3 f4 f5
    obtain ⟨o, e, c, d⟩ := id st'
    exact ⟨u, rfl, go_of (s := { s with heap := h' }) e c d (by decide) ⟨x, H, I1, ru, ⟨rfl, fun ys hy => by rw [I.tuple_inj hy hq]; exact hx⟩, st', fun b hb => (hf b hb).1⟩⟩
  done := by
    intro X hP hw hK hc i pins s σ H E I hf st hg
    subst hP hw hK
    obtain ⟨xs, hq, hx⟩ := hg
    obtain ⟨its, rv, p, hz⟩ := I.tuple hq
    obtain ⟨f0, f1, f2, f3, f4, f5⟩ := hf it (by simp)
    have hl := rv.length
    exact wpAny_pyNext_tuple_end (I.ok.hd hc) st (show s.heap.IsTuple a its.toArray from p) (by simp; omega) fun h' eb => ⟨rfl, I.turned (t' := s.toks) (fun b o hb e => eb b o hb e) f0 f1 f3 f4 f5⟩
  self := fun _ _ _ _ _ st h => wpAny_pyIter_tupleiter st h
theorem turn_range {P : Program} {w : World} {K : PySem.W.Frag} {tg : Expr} (it : Addr) (lo : Int) (n : Nat) : Turn P w K tg (Itr lo n) [it] it (fun i h => IsRangeIter h it (lo + (i : Nat) * 1) ((n : Int) - (i : Nat)) 1) where
  mem := by simp
  obj := fun i h st b hb => by
    have e : b = it := by simpa using hb
    subst e
    exact ⟨_, st, fun v z => by
      have z' : Data.fields _ = Data.cell v := z
      cases z'⟩
  keep := fun i h h' st k => k it (by simp) _ st
  item := by
    intro X hP hw hK hc i pins s σ H E I hf st hg
    subst hP hw hK
    obtain ⟨f0, f1, f2, f3, f4, f5⟩ := hf it (by simp)
    have W := Walks.range (prog := X.prog) (w := X.w) (I.ok.hd hc) it lo 1 n
    refine W.item i s _ _ hg st fun v h' tk hv st' kk => ?_
    obtain ⟨t, rfl⟩ := hv
    have I1 : Inv X pins σ H { s with heap := h', toks := tk } := I.turned (fun b o hb e => kk b o (by simpa using hb) e) f0 f1 f3 f4 f5
    refine ⟨_, rfl, go_of (s := { s with heap := h', toks := tk }) (n := "range_iterator") st' rfl rfl (by decide) ⟨.int (lo + i), H, I1, ⟨t, ?_⟩, ⟨rfl, rfl⟩, st', fun b hb => (hf b hb).1⟩⟩
    rw [Int.mul_one]
  done := by
    intro X hP hw hK hc i pins s σ H E I hf st hg
    subst hP hw hK
    obtain ⟨f0, f1, f2, f3, f4, f5⟩ := hf it (by simp)
    exact wpAny_pyNext_range_end (I.ok.hd hc) st (by have : n ≤ i := hg; omega) fun h' eb => ⟨rfl, I.turned (t' := s.toks) (fun b o hb e => eb b o hb e) f0 f1 f3 f4 f5⟩
  self := fun _ _ _ _ _ st h => wpAny_pyIter_rangeiter st h
end L2
namespace L2
open PySem PySem.Spec PyProof.Rows
section
variable {X : Cx} {tg : Expr}
def iList (K : PySem.W.Frag) (tl : TE) : TI := fun σ H R => tl σ H fun x H1 => ∃ a, x = .ref a ∧ (∃ xs, SqL K H1 a xs) ∧ R (Itl K a) H1
def iTup (K : PySem.W.Frag) (tl : TE) : TI := fun σ H R => tl σ H fun x H1 => ∃ a, x = .ref a ∧ (∃ xs, SqT K H1 a xs) ∧ R (Itt K a) H1
theorem pi_list {l : Expr} {tl : TE} (hl : PE X l tl) : PI X tg l (iList X.K tl) := by
  intro pins s σ H R I h
  refine thn (hl pins s σ H _ I h) fun v s1 ⟨x, H1, I1, r1, q1⟩ => ?_
  obtain ⟨a, e, ⟨xs, hq⟩, q⟩ := q1
  subst e
  cases r1
  obtain ⟨its, rv, p, hz⟩ := I1.list hq
  refine wpAny_pyIter_list p.isList ?_
  refine ⟨s1.heap.objs.size, [s1.heap.objs.size], _, _, H1, rfl, I1.kept (t' := s1.toks) fun b o e => Heap.get?_push_of_some _ e, turn_list a _, ⟨_, Heap.get?_push_size _ rfl, rfl, rfl⟩, fun b hb => ?_, q⟩
  have e : b = s1.heap.objs.size := by simpa using hb
  subst e
  exact I1.fpOk (Nat.le_refl _) (I1.hok.fresh (Nat.le_refl _))
theorem pi_tup {l : Expr} {tl : TE} (hl : PE X l tl) : PI X tg l (iTup X.K tl) := by
  intro pins s σ H R I h
  refine thn (hl pins s σ H _ I h) fun v s1 ⟨x, H1, I1, r1, q1⟩ => ?_
  obtain ⟨a, e, ⟨xs, hq⟩, q⟩ := q1
  subst e
  cases r1
  obtain ⟨its, rv, p, hz⟩ := I1.tuple hq
  refine wpAny_pyIter_tuple (show s1.heap.IsTuple a its.toArray from p) ?_
  refine ⟨s1.heap.objs.size, [s1.heap.objs.size], _, _, H1, rfl, I1.kept (t' := s1.toks) fun b o e => Heap.get?_push_of_some _ e, turn_tuple a _, ⟨_, Heap.get?_push_size _ rfl, rfl, rfl⟩, fun b hb => ?_, q⟩
  have e : b = s1.heap.objs.size := by simpa using hb
  subst e
  exact I1.fpOk (Nat.le_refl _) (I1.hok.fresh (Nat.le_refl _))
theorem range_it {pins : List (Addr × Obj)} {σ : St} {H : Hp} {s : Shared} {R : It → Hp → Prop} {E : Value → Shared → Prop} {lo hi : Int} {t u v : Tok} {tk : Nat} (I : Inv X pins σ H s) (h1 : -(2 ^ 62) ≤ lo) (h2 : lo < 2 ^ 62) (h3 : -(2 ^ 62) ≤ hi) (h4 : hi < 2 ^ 62)
    (q : R (Itr lo (hi - lo).toNat) H) : wpAny (model X.prog X.w) X.A (pyIter (.ref s.heap.objs.size)) (PIE X pins σ tg R) E { s with heap := s.heap.push { cls := .type "range", data := .fields #[.int lo t, .int hi u, .int 1 v] }, toks := tk } := by
  refine wpAny_pyIter_range (IsRange.new ..) (small_one h1 h2 h3 h4) ?_
  have I1 : Inv X pins σ H { s with heap := s.heap.push { cls := .type "range", data := .fields #[.int lo t, .int hi u, .int 1 v] }, toks := tk } := I.kept fun b o e => Heap.get?_push_of_some _ e
  refine ⟨(s.heap.push { cls := .type "range", data := .fields #[.int lo t, .int hi u, .int 1 v] }).objs.size, [(s.heap.push { cls := .type "range", data := .fields #[.int lo t, .int hi u, .int 1 v] }).objs.size], _, _, H, rfl,
    I1.kept (t' := tk) fun b o e => Heap.get?_push_of_some _ e, turn_range _ lo (hi - lo).toNat, ?_, fun b hb => ?_, q⟩
  · have e1 : lo + ((0 : Nat) : Int) * 1 = lo := by simp
    have e2 : (((hi - lo).toNat : Nat) : Int) - ((0 : Nat) : Int) = Builtin.Range.rangeSize lo hi 1 := by rw [rangeSize_one]; split <;> omega
    show IsRangeIter _ _ (lo + ((0 : Nat) : Int) * 1) ((((hi - lo).toNat : Nat) : Int) - ((0 : Nat) : Int)) 1
    rw [e1, e2]
    exact Heap.get?_push_size _ rfl
  · have e : b = (s.heap.push { cls := .type "range", data := .fields #[.int lo t, .int hi u, .int 1 v] }).objs.size := by simpa using hb
    subst e
    exact I1.fpOk (Nat.le_refl _) (I1.hok.fresh (Nat.le_refl _))
def iRng1 (ta : TA) : TI := fun σ H R => ta σ H fun vs H1 => ∃ j : Int, vs = [.int j] ∧ -(2 ^ 62) ≤ j ∧ j < 2 ^ 62 ∧ R (Itr 0 j.toNat) H1
theorem pi_range1 {a : Expr} {ta : TA} {p pos : Pos} (hg : Gl X "range") (hm : X.mg "range" = none) (ha : PA X [a] ta) (hs : starEach [a] X.env = [(false, eval a X.env)] := by rfl) : PI X tg (.Call (.Name "range" p) [a] [] pos) (iRng1 ta) := by
  intro pins s σ H R I h
  refine Call_ (ld_blt I hg hm boot_range (PyProof.Rows.callWith_type1 (thn (ha pos pins s σ H _ I h) fun us s1 ⟨vs, H1, I1, r1, q1⟩ => ?_) hs rfl))
  obtain ⟨j, e, q1, q2, q⟩ := q1
  subst e
  cases r1 with
  | cons r rr =>
    cases rr
    obtain ⟨t, rfl⟩ := r
    exact call_range_1 (range_it I1 (by omega) (by omega) q1 q2 (by simpa using q))
def tFor (wi : TI) (g : TG) (tb : TS) : TS := fun D σ H => wi σ H fun J H1 => ∃ W : Nat → Nat → St → Hp → Prop, (∃ m, W 0 m σ H1) ∧ ∀ i m σ H, W i m σ H →
  (J.stop i H ∧ D.nx σ H) ∨ (J.go i H ∧ ∃ N : St → Hp → Prop, (∀ σ' H', N σ' H' → ∃ m', m' < m ∧ W (i + 1) m' σ' H') ∧ ∀ x H', J.yld i H x H' → g x σ H' fun σ2 H2 => tb { D with nx := N, ct := N, bk := D.nx } σ2 H2)
def pinsAt (fp : List Addr) (h : Heap) : List (Addr × Obj) := fp.filterMap fun b => (h.get? b).map fun o => (b, o)
theorem mem_pinsAt {fp : List Addr} {h : Heap} {b : Addr} {o : Obj} (hb : b ∈ fp) (e : h.get? b = some o) : (b, o) ∈ pinsAt fp h := List.mem_filterMap.mpr ⟨b, hb, by rw [e]; rfl⟩
theorem of_pinsAt {fp : List Addr} {h : Heap} {p : Addr × Obj} (hp : p ∈ pinsAt fp h) : p.1 ∈ fp ∧ h.get? p.1 = some p.2 := by
  obtain ⟨b, hb, e⟩ := List.mem_filterMap.mp hp
  cases q : h.get? b with
  | none => rw [q] at e; cases e
  | some o =>
    rw [q] at e
    have e' : (b, o) = p := Option.some.inj e
    subst e'
    exact ⟨hb, q⟩
theorem Inv.pinned {pins : List (Addr × Obj)} {σ : St} {H : Hp} {s : Shared} {fp : List Addr} (I : Inv X pins σ H s) (hf : ∀ b ∈ fp, FpOk X pins H b) (ho : ∀ b ∈ fp, ∃ o, s.heap.get? b = some o ∧ ∀ v, o.data ≠ .cell v) : Inv X (pins ++ pinsAt fp s.heap) σ H s :=
  I.pins_of fun p hp => (List.mem_append.mp hp).elim (fun z => I.pin p (List.mem_append_right _ z)) fun z => by
    obtain ⟨hb, e⟩ := of_pinsAt z
    obtain ⟨f0, f1, f2, _⟩ := hf p.1 hb
    obtain ⟨o, e', d⟩ := ho p.1 hb
    rw [e] at e'; cases e'
    exact ⟨e, f0, f1, f2, d⟩
theorem Inv.unpinned {pins pl : List (Addr × Obj)} {σ : St} {H : Hp} {s : Shared} (I : Inv X (pins ++ pl) σ H s) : Inv X pins σ H s := I.pins_of fun p hp => I.pin p (List.mem_append_right _ (List.mem_append_left _ hp))
theorem ps_for {iter : Expr} {body : List Stmt} {wi : TI} {g : TG} {tb : TS} {pos : Pos} (hp : PassesOwn (model X.prog X.w) X.A X.env X.xe) (hc : X.calm = true) (hi : PI X tg iter wi) (hg : PG X tg g) (hb : PSs X body tb)
    (hs : ∀ x, foldedSetIterable iter X.env x = pure x := by intro _; rfl) : PS X (.For tg iter body [] pos) (tFor wi g tb) := by
  intro pins s σ H D I h
  refine wpAny_For (thn (hi pins s σ H _ I h) fun v s1 h1 => thn h1 fun itv s2 h2 => ?_) hs
  obtain ⟨it, fp, tn, J, H2, e, I2, T, st2, f2, W, ⟨m0, w0⟩, turn⟩ := h2
  subst e
  -- what stays true of the iterator's objects through the loop
  have stat : ∀ {H' : Hp}, (∀ b ∈ fp, H' b = none) → ∀ b ∈ fp, FpOk X pins H' b := fun hn b hb => ⟨hn b hb, (f2 b hb).2⟩
  refine codeAny_forLoop_any (fun n s' => ∃ i σ' H', Inv X pins σ' H' s' ∧ tn i s'.heap ∧ (∀ b ∈ fp, H' b = none) ∧ W i n σ' H') ?_ m0 ⟨0, σ, H2, I2, st2, fun b hb => (f2 b hb).1, w0⟩
  rintro n s3 ⟨i, σ3, H3, I3, st3, fr3, w3⟩
  rcases turn i n σ3 H3 w3 with ⟨stop, qn⟩ | ⟨go, N, hN, step⟩
  · refine wpAny_passesOwn hp (thn (T.done X rfl rfl rfl hc i pins s3 σ3 H3 X.xe I3 (stat fr3) st3 stop) fun r s4 ⟨hr, I4⟩ => ?_)
    subst hr
    exact wpAny_execs_nil ⟨σ3, H3, I4, qn⟩
  · refine wpAny_passesOwn hp (thn (T.item X rfl rfl rfl hc i pins s3 σ3 H3 X.xe I3 (stat fr3) st3 go) fun r s4 ⟨u, hr, h4⟩ => ?_)
    subst hr
    refine wpAny_passesOwn hp (thn h4 fun _ s5 ⟨x, H5, I5, r5, y5, st5, fr5⟩ => ?_)
    have I5' := I5.pinned (stat fr5) (T.obj _ _ st5)
    refine wpAny_passesOwn hp (thn (hg _ s5 σ3 H5 x u _ I5' r5 (step x H5 y5)) fun _ s6 ⟨σ6, H6, I6, q6⟩ => ?_)
    refine wpAny_passesOwn hp (thn (hb _ s6 σ6 H6 _ I6 q6) fun f s7 q7 => ?_)
    have again : ∀ {σ7 : St} {H7 : Hp}, Inv X (pins ++ pinsAt fp s5.heap) σ7 H7 s7 → N σ7 H7 → ∃ m, m < n ∧ ∃ i σ' H', Inv X pins σ' H' s7 ∧ tn i s7.heap ∧ (∀ b ∈ fp, H' b = none) ∧ W i m σ' H' := fun {σ7 H7} I7 n7 => by
      obtain ⟨m', hm, w7⟩ := hN σ7 H7 n7
      refine ⟨m', hm, i + 1, σ7, H7, I7.unpinned, T.keep _ _ _ st5 fun b hb o e => (I7.pin (b, o) (List.mem_append_right _ (List.mem_append_right _ (mem_pinsAt hb e)))).1, fun b hb => ?_, w7⟩
      obtain ⟨o, e, d⟩ := T.obj _ _ st5 b hb
      exact (I7.pin (b, o) (List.mem_append_right _ (List.mem_append_right _ (mem_pinsAt hb e)))).2.1
    cases f with
    | next => obtain ⟨σ7, H7, I7, n7⟩ := q7; exact again I7 n7
    | cont => obtain ⟨σ7, H7, I7, n7⟩ := q7; exact again I7 n7
    | brk => obtain ⟨σ7, H7, I7, q7⟩ := q7; exact ⟨σ7, H7, I7.unpinned, q7⟩
    | ret v => obtain ⟨x7, σ7, H7, I7, r7, q7⟩ := q7; exact ⟨x7, σ7, H7, I7.unpinned, r7, q7⟩
end
theorem for_list {K : PySem.W.Frag} {a : Addr} {xs : List V} {g : TG} {tb : TS} {D : Ends} {σ : St} {H : Hp} (Pv : Nat → St → Hp → Prop) (h0 : Pv 0 σ H) (hl : ∀ i σ H, i ≤ xs.length → Pv i σ H → SqL K H a xs)
    (hs : ∀ i x σ H, xs[i]? = some x → Pv i σ H → g x σ H fun σ2 H2 => tb { D with nx := Pv (i + 1), ct := Pv (i + 1), bk := D.nx } σ2 H2) (hd : ∀ σ H, Pv xs.length σ H → D.nx σ H) :
    ∃ W : Nat → Nat → St → Hp → Prop, (∃ m, W 0 m σ H) ∧ ∀ i m σ H, W i m σ H →
      ((Itl K a).stop i H ∧ D.nx σ H) ∨ ((Itl K a).go i H ∧ ∃ N : St → Hp → Prop, (∀ σ' H', N σ' H' → ∃ m', m' < m ∧ W (i + 1) m' σ' H') ∧ ∀ x H', (Itl K a).yld i H x H' → g x σ H' fun σ2 H2 => tb { D with nx := N, ct := N, bk := D.nx } σ2 H2) := by
  refine ⟨fun i m σ H => m = xs.length - i ∧ i ≤ xs.length ∧ Pv i σ H, ⟨xs.length, by simp, Nat.zero_le _, h0⟩, ?_⟩
  rintro i m σ H ⟨rfl, hi, p⟩
  have q := hl i σ H hi p
  by_cases hlt : i < xs.length
  · refine .inr ⟨⟨xs, xs[i], q, by simp [hlt]⟩, Pv (i + 1), fun σ' H' p' => ⟨xs.length - (i + 1), by omega, rfl, hlt, p'⟩, fun x H' y => ?_⟩
    obtain ⟨e, y⟩ := y
    subst e
    exact hs i x σ _ (y xs q) p
  · have e : i = xs.length := by omega
    subst e
    exact .inl ⟨⟨xs, q, Nat.le_refl _⟩, hd σ H p⟩
theorem for_tup {K : PySem.W.Frag} {a : Addr} {xs : List V} {g : TG} {tb : TS} {D : Ends} {σ : St} {H : Hp} (Pv : Nat → St → Hp → Prop) (h0 : Pv 0 σ H) (hl : ∀ i σ H, i ≤ xs.length → Pv i σ H → SqT K H a xs)
    (hs : ∀ i x σ H, xs[i]? = some x → Pv i σ H → g x σ H fun σ2 H2 => tb { D with nx := Pv (i + 1), ct := Pv (i + 1), bk := D.nx } σ2 H2) (hd : ∀ σ H, Pv xs.length σ H → D.nx σ H) :
    ∃ W : Nat → Nat → St → Hp → Prop, (∃ m, W 0 m σ H) ∧ ∀ i m σ H, W i m σ H →
      ((Itt K a).stop i H ∧ D.nx σ H) ∨ ((Itt K a).go i H ∧ ∃ N : St → Hp → Prop, (∀ σ' H', N σ' H' → ∃ m', m' < m ∧ W (i + 1) m' σ' H') ∧ ∀ x H', (Itt K a).yld i H x H' → g x σ H' fun σ2 H2 => tb { D with nx := N, ct := N, bk := D.nx } σ2 H2) := by
  refine ⟨fun i m σ H => m = xs.length - i ∧ i ≤ xs.length ∧ Pv i σ H, ⟨xs.length, by simp, Nat.zero_le _, h0⟩, ?_⟩
  rintro i m σ H ⟨rfl, hi, p⟩
  have q := hl i σ H hi p
  by_cases hlt : i < xs.length
  · refine .inr ⟨⟨xs, xs[i], q, by simp [hlt]⟩, Pv (i + 1), fun σ' H' p' => ⟨xs.length - (i + 1), by omega, rfl, hlt, p'⟩, fun x H' y => ?_⟩
    obtain ⟨e, y⟩ := y
    subst e
    exact hs i x σ _ (y xs q) p
  · have e : i = xs.length := by omega
    subst e
    exact .inl ⟨⟨xs, q, Nat.le_refl _⟩, hd σ H p⟩
theorem for_range {lo : Int} {n : Nat} {g : TG} {tb : TS} {D : Ends} {σ : St} {H : Hp} (Pv : Nat → St → Hp → Prop) (h0 : Pv 0 σ H)
    (hs : ∀ i σ H, i < n → Pv i σ H → g (.int (lo + i)) σ H fun σ2 H2 => tb { D with nx := Pv (i + 1), ct := Pv (i + 1), bk := D.nx } σ2 H2) (hd : ∀ σ H, Pv n σ H → D.nx σ H) :
    ∃ W : Nat → Nat → St → Hp → Prop, (∃ m, W 0 m σ H) ∧ ∀ i m σ H, W i m σ H →
      ((Itr lo n).stop i H ∧ D.nx σ H) ∨ ((Itr lo n).go i H ∧ ∃ N : St → Hp → Prop, (∀ σ' H', N σ' H' → ∃ m', m' < m ∧ W (i + 1) m' σ' H') ∧ ∀ x H', (Itr lo n).yld i H x H' → g x σ H' fun σ2 H2 => tb { D with nx := N, ct := N, bk := D.nx } σ2 H2) := by
  refine ⟨fun i m σ H => m = n - i ∧ i ≤ n ∧ Pv i σ H, ⟨n, by simp, Nat.zero_le _, h0⟩, ?_⟩
  rintro i m σ H ⟨rfl, hi, p⟩
  by_cases hlt : i < n
  · refine .inr ⟨hlt, Pv (i + 1), fun σ' H' p' => ⟨n - (i + 1), by omega, rfl, hlt, p'⟩, fun x H' y => ?_⟩
    obtain ⟨e, y⟩ := y
    subst e y
    exact hs i σ _ hlt p
  · have e : i = n := by omega
    subst e
    exact .inl ⟨Nat.le_refl _, hd σ H p⟩
end L2
namespace L2
open PySem PySem.Spec PyProof.Rows
abbrev R2 := V → V → Hp → VK → Prop
def OpR (X : Cx) (f : Value → Value → Sem Value) (r : R2) : Prop :=
  ∀ (pins : List (Addr × Obj)) (s : Shared) (σ : St) (H : Hp) (x y : V) (v u : Value) (Q : VK), Inv X pins σ H s → RelV x v → RelV y u → r x y H Q →
    wpAny (model X.prog X.w) X.A (f v u) (EP X pins σ Q) X.xe s
def UnR (X : Cx) (f : Value → Sem Value) (r : V → Hp → VK → Prop) : Prop :=
  ∀ (pins : List (Addr × Obj)) (s : Shared) (σ : St) (H : Hp) (x : V) (v : Value) (Q : VK), Inv X pins σ H s → RelV x v → r x H Q →
    wpAny (model X.prog X.w) X.A (f v) (EP X pins σ Q) X.xe s
def CallR (X : Cx) (f : Value) (r : List V → Hp → VK → Prop) : Prop :=
  ∀ (pins : List (Addr × Obj)) (s : Shared) (σ : St) (H : Hp) (xs : List V) (us : List Value) (Q : VK), Inv X pins σ H s → Vals xs us → r xs H Q →
    wpAny (model X.prog X.w) X.A (call f us) (EP X pins σ Q) X.xe s
def TruR (X : Cx) (r : V → Hp → (Bool → Hp → Prop) → Prop) : Prop :=
  ∀ (pins : List (Addr × Obj)) (s : Shared) (σ : St) (H : Hp) (x : V) (v : Value) (Q : Bool → Hp → Prop), Inv X pins σ H s → RelV x v → r x H Q →
    wpAny (model X.prog X.w) X.A (truthy v) (TP X pins σ Q) X.xe s
def tOp (r : R2) (ta tb : TE) : TE := fun σ H Q => ta σ H fun x H1 => tb σ H1 fun y H2 => r x y H2 Q
def tUn (r : V → Hp → VK → Prop) (ta : TE) : TE := fun σ H Q => ta σ H fun x H1 => r x H1 Q
def rI (C : Int → Int → Prop) (g : Int → Int → V) : R2 := fun x y H Q => ∃ i j, x = .int i ∧ y = .int j ∧ C i j ∧ Q (g i j) H
def rI0 (g : Int → Int → V) : R2 := fun x y H Q => ∃ i j, x = .int i ∧ y = .int j ∧ Q (g i j) H
def rU (g : Int → V) : V → Hp → VK → Prop := fun x H Q => ∃ i, x = .int i ∧ Q (g i) H
section
variable {X : Cx} {a b c : Expr} {ta tb tc : TE} {pos : Pos}
theorem binT (ha : PE X a ta) (hb : PE X b tb) {pins : List (Addr × Obj)} {s : Shared} {σ : St} {H : Hp} {R : V → V → Hp → Prop} (I : Inv X pins σ H s)
    (h : ta σ H fun x H1 => tb σ H1 fun y H2 => R x y H2) {Q : Value → Shared → Prop} {f : Value → Value → Sem Value}
    (hf : ∀ v u s2 x y H2, Inv X pins σ H2 s2 → RelV x v → RelV y u → R x y H2 → wpAny (model X.prog X.w) X.A (f v u) Q X.xe s2) :
    wpAny (model X.prog X.w) X.A (eval a X.env) (fun v s₁ => wpAny (model X.prog X.w) X.A (eval b X.env) (fun u s₂ => wpAny (model X.prog X.w) X.A (f v u) Q X.xe s₂) X.xe s₁) X.xe s := by
  refine thn (ha pins s σ H _ I h) fun v s1 ⟨x, H1, I1, r1, q1⟩ => ?_
  refine thn (hb pins s1 σ H1 _ I1 q1) fun u s2 ⟨y, H2, I2, r2, q2⟩ => ?_
  exact hf v u s2 x y H2 I2 r1 r2 q2
theorem pe_op {op : Operator} {r : R2} (ho : OpR X (binaryOp op) r) (ha : PE X a ta) (hb : PE X b tb) : PE X (.BinOp a op b pos) (tOp r ta tb) := by
  intro pins s σ H Q I h
  exact wpAny_BinOp (binT ha hb I h fun v u s2 x y H2 I2 rx ry q => ho pins s2 σ H2 x y v u Q I2 rx ry q)
theorem pe_un {op : UnaryOp} {r : V → Hp → VK → Prop} (ho : UnR X (unaryOp op) r) (ha : PE X a ta) : PE X (.UnaryOp op a pos) (tUn r ta) := by
  intro pins s σ H Q I h
  exact UnaryOp_ (thn (ha pins s σ H _ I h) fun v s1 ⟨x, H1, I1, r1, q1⟩ => ho pins s1 σ H1 x v Q I1 r1 q1)
theorem opI {f : Value → Value → Sem Value} {C : Int → Int → Prop} {g : Int → Int → Int}
    (rule : ∀ (i j : Int) (t u : Tok) (s : Shared) (Q : Value → Shared → Prop) (E : Value → Shared → Prop), C i j → Q (.int (g i j) s.toks) { s with toks := s.toks + 1 } → wpAny (model X.prog X.w) X.A (f (.int i t) (.int j u)) Q E s) :
    OpR X f (rI C fun i j => .int (g i j)) := by
  intro pins s σ H x y v u Q I rx ry h
  obtain ⟨i, j, rfl, rfl, hc, q⟩ := h
  obtain ⟨t, rfl⟩ := rx
  obtain ⟨t', rfl⟩ := ry
  exact rule i j t t' s _ _ hc ⟨.int (g i j), H, I.tok _, ⟨_, rfl⟩, q⟩
theorem opI0 {f : Value → Value → Sem Value} {g : Int → Int → Int}
    (rule : ∀ (i j : Int) (t u : Tok) (s : Shared) (Q : Value → Shared → Prop) (E : Value → Shared → Prop), Q (.int (g i j) s.toks) { s with toks := s.toks + 1 } → wpAny (model X.prog X.w) X.A (f (.int i t) (.int j u)) Q E s) :
    OpR X f (rI0 fun i j => .int (g i j)) := by
  intro pins s σ H x y v u Q I rx ry h
  obtain ⟨i, j, rfl, rfl, q⟩ := h
  obtain ⟨t, rfl⟩ := rx
  obtain ⟨t', rfl⟩ := ry
  exact rule i j t t' s _ _ ⟨.int (g i j), H, I.tok _, ⟨_, rfl⟩, q⟩
theorem opB0 {f : Value → Value → Sem Value} {g : Int → Int → Bool}
    (rule : ∀ (i j : Int) (t u : Tok) (s : Shared) (Q : Value → Shared → Prop) (E : Value → Shared → Prop), Q (.bool (g i j)) s → wpAny (model X.prog X.w) X.A (f (.int i t) (.int j u)) Q E s) :
    OpR X f (rI0 fun i j => .bl (g i j)) := by
  intro pins s σ H x y v u Q I rx ry h
  obtain ⟨i, j, rfl, rfl, q⟩ := h
  obtain ⟨t, rfl⟩ := rx
  obtain ⟨t', rfl⟩ := ry
  exact rule i j t t' s _ _ ⟨.bl (g i j), H, I, rfl, q⟩
def CDiv (i j : Int) : Prop := 0 < j ∧ j < 1073741824
def CPow (i j : Int) : Prop := 0 ≤ j ∧ j ≤ 1000000 ∧ i.natAbs < 2 ^ 64
theorem op_add : OpR X (binaryOp .Add) (rI0 fun i j => .int (i + j)) := opI0 fun _ _ _ _ _ _ _ q => add_int q
theorem op_sub : OpR X (binaryOp .Sub) (rI0 fun i j => .int (i - j)) := opI0 fun _ _ _ _ _ _ _ q => sub_int q
theorem op_fdiv : OpR X (binaryOp .FloorDiv) (rI CDiv fun i j => .int (i / j)) := opI fun i j _ _ _ _ _ hc q => by
  have h1 : (0 : Int) < j := hc.1
  have h2 : j < 1073741824 := hc.2
  exact floordiv_int (by omega) (by rw [Int.fdiv_eq_ediv_of_nonneg i (by omega)]; exact q) (.inl (PyProof.noPylong_small (by omega)))
theorem op_mod : OpR X (binaryOp .Mod) (rI (fun _ j => 0 < j) fun i j => .int (i % j)) := opI fun i j _ _ _ _ _ hc q => by
  have h1 : (0 : Int) < j := hc
  exact mod_int' (by omega) (by rw [Int.fmod_eq_emod_of_nonneg i (by omega)]; exact q)
theorem op_pow : OpR X (binaryOp .Pow) (rI CPow fun i j => .int (i ^ j.toNat)) := opI fun _ _ _ _ _ _ _ hc q => pow_int_small hc.1 hc.2.1 hc.2.2 q
theorem unI {f : Value → Sem Value} {g : Int → Int}
    (rule : ∀ (i : Int) (t : Tok) (s : Shared) (Q : Value → Shared → Prop) (E : Value → Shared → Prop), Q (.int (g i) s.toks) { s with toks := s.toks + 1 } → wpAny (model X.prog X.w) X.A (f (.int i t)) Q E s) :
    UnR X f (rU fun i => .int (g i)) := by
  intro pins s σ H x v Q I rx h
  obtain ⟨i, rfl, q⟩ := h
  obtain ⟨t, rfl⟩ := rx
  exact rule i t s _ _ ⟨.int (g i), H, I.tok _, ⟨_, rfl⟩, q⟩
theorem un_neg : UnR X (unaryOp .USub) (rU fun i => .int (-i)) := unI fun _ _ _ _ _ q => neg_int q
end
def scal : V → V → Bool
  | .non, .non => true | .non, .int _ => true | .int _, .non => true | .non, .bl _ => true | .bl _, .non => true | .non, .str _ => true | .str _, .non => true
  | .int _, .int _ => true | .bl _, .bl _ => true | .str _, .str _ => true | .byt _, .byt _ => true
  | .int _, .str _ => true | .str _, .int _ => true | .bl _, .str _ => true | .str _, .bl _ => true
  | _, _ => false
def rEq : R2 := fun x y H Q => scal x y = true ∧ Q (.bl (decide (x = y))) H
def rNe : R2 := fun x y H Q => scal x y = true ∧ Q (.bl (!decide (x = y))) H
theorem dec_int {i j : Int} : decide (V.int i = V.int j) = (i == j) := by
  rw [Bool.eq_iff_iff]
  simp
theorem dec_bl {i j : Bool} : decide (V.bl i = V.bl j) = (i == j) := by
  rw [Bool.eq_iff_iff]
  simp
theorem dec_str {i j : Str} : decide (V.str i = V.str j) = (i == j) := by
  rw [Bool.eq_iff_iff]
  simp
theorem dec_byt {i j : Array UInt8} : decide (V.byt i = V.byt j) = (i.toList == j.toList) := by
  rw [Bool.eq_iff_iff]
  cases i
  cases j
  simp
section
variable {X : Cx} {a b c : Expr} {ta tb tc : TE} {pos : Pos}
theorem fin_bl {pins : List (Addr × Obj)} {σ : St} {H : Hp} {s : Shared} {Q : VK} {k k' : Bool} (I : Inv X pins σ H s) (q : Q (.bl k) H) (e : k = k') : EP X pins σ Q (.bool k') s := by
  subst e
  exact ⟨.bl k, H, I, rfl, q⟩
theorem op_eq : OpR X (compareOp .Eq) rEq := by
  intro pins s σ H x y v u Q I rx ry h
  obtain ⟨hs, q⟩ := h
  cases x with
  | non =>
    cases rx
    cases y with
    | non => cases ry; exact PySem.EqNone.eq_none_none (fin_bl I q (by simp))
    | bl j => cases ry; exact PySem.EqNone.eq_none_bool (fin_bl I q (by simp))
    | int j => obtain ⟨t', rfl⟩ := ry; exact PySem.EqNone.eq_none_int (fin_bl I q (by simp))
    | str j => obtain ⟨t', rfl⟩ := ry; exact PySem.EqNone.eq_none_str (fin_bl I q (by simp))
    | _ => exact absurd (show false = true from hs) Bool.false_ne_true
  | bl i =>
    cases rx
    cases y with
    | non => cases ry; exact PySem.EqNone.eq_bool_none (fin_bl I q (by simp))
    | bl j => cases ry; exact eq_bool (fin_bl I q dec_bl)
    | str j => obtain ⟨t', rfl⟩ := ry; exact PySem.EqMixed.eq_bool_str (fin_bl I q (by simp))
    | _ => exact absurd (show false = true from hs) Bool.false_ne_true
  | int i =>
    obtain ⟨t, rfl⟩ := rx
    cases y with
    | non => cases ry; exact PySem.EqNone.eq_int_none (fin_bl I q (by simp))
    | int j => obtain ⟨t', rfl⟩ := ry; exact eq_int (fin_bl I q dec_int)
    | str j => obtain ⟨t', rfl⟩ := ry; exact PySem.EqMixed.eq_int_str (fin_bl I q (by simp))
    | _ => exact absurd (show false = true from hs) Bool.false_ne_true
  | str i =>
    obtain ⟨t, rfl⟩ := rx
    cases y with
    | non => cases ry; exact PySem.EqNone.eq_str_none (fin_bl I q (by simp))
    | bl j => cases ry; exact PySem.EqMixed.eq_str_bool (fin_bl I q (by simp))
    | int j => obtain ⟨t', rfl⟩ := ry; exact PySem.EqMixed.eq_str_int (fin_bl I q (by simp))
    | str j => obtain ⟨t', rfl⟩ := ry; exact eq_str (fin_bl I q dec_str)
    | _ => exact absurd (show false = true from hs) Bool.false_ne_true
  | byt i =>
    obtain ⟨t, rfl⟩ := rx
    cases y with
    | byt j => obtain ⟨t', rfl⟩ := ry; exact PySem.W.eq_bytes (fin_bl I q dec_byt)
    | _ => exact absurd (show false = true from hs) Bool.false_ne_true
  | _ => cases y <;> exact absurd (show false = true from hs) Bool.false_ne_true
theorem op_ne : OpR X (compareOp .NotEq) rNe := by
  intro pins s σ H x y v u Q I rx ry h
  obtain ⟨hs, q⟩ := h
  cases x with
  | non =>
    cases rx
    cases y with
    | non => cases ry; exact PySem.EqNone.ne_none_none (fin_bl I q (by simp))
    | bl j => cases ry; exact PySem.EqNone.ne_none_bool (fin_bl I q (by simp))
    | int j => obtain ⟨t', rfl⟩ := ry; exact PySem.EqNone.ne_none_int (fin_bl I q (by simp))
    | str j => obtain ⟨t', rfl⟩ := ry; exact PySem.EqNone.ne_none_str (fin_bl I q (by simp))
    | _ => exact absurd (show false = true from hs) Bool.false_ne_true
  | bl i =>
    cases rx
    cases y with
    | non => cases ry; exact PySem.EqNone.ne_bool_none (fin_bl I q (by simp))
    | bl j => cases ry; exact ne_bool (fin_bl I q (congrArg not dec_bl))
    | str j => obtain ⟨t', rfl⟩ := ry; exact PySem.EqMixed.ne_bool_str (fin_bl I q (by simp))
    | _ => exact absurd (show false = true from hs) Bool.false_ne_true
  | int i =>
    obtain ⟨t, rfl⟩ := rx
    cases y with
    | non => cases ry; exact PySem.EqNone.ne_int_none (fin_bl I q (by simp))
    | int j => obtain ⟨t', rfl⟩ := ry; exact ne_int (fin_bl I q (congrArg not dec_int))
    | str j => obtain ⟨t', rfl⟩ := ry; exact PySem.EqMixed.ne_int_str (fin_bl I q (by simp))
    | _ => exact absurd (show false = true from hs) Bool.false_ne_true
  | str i =>
    obtain ⟨t, rfl⟩ := rx
    cases y with
    | non => cases ry; exact PySem.EqNone.ne_str_none (fin_bl I q (by simp))
    | bl j => cases ry; exact PySem.EqMixed.ne_str_bool (fin_bl I q (by simp))
    | int j => obtain ⟨t', rfl⟩ := ry; exact PySem.EqMixed.ne_str_int (fin_bl I q (by simp))
    | str j => obtain ⟨t', rfl⟩ := ry; exact ne_str (fin_bl I q (congrArg not dec_str))
    | _ => exact absurd (show false = true from hs) Bool.false_ne_true
  | byt i =>
    obtain ⟨t, rfl⟩ := rx
    cases y with
    | byt j => obtain ⟨t', rfl⟩ := ry; exact PySem.W.ne_bytes (fin_bl I q (congrArg not dec_byt))
    | _ => exact absurd (show false = true from hs) Bool.false_ne_true
  | _ => cases y <;> exact absurd (show false = true from hs) Bool.false_ne_true
theorem op_lt : OpR X (compareOp .Lt) (rI0 fun i j => .bl (decide (i < j))) := opB0 fun _ _ _ _ _ _ _ q => lt_int q
theorem op_gt : OpR X (compareOp .Gt) (rI0 fun i j => .bl (decide (j < i))) := opB0 fun _ _ _ _ _ _ _ q => gt_int q
theorem nomark (b : Expr) {op : CmpOp} (h : op ≠ .In := by decide) (h2 : op ≠ .NotIn := by decide) : behindInMarks op b = false := by
  have e1 : (op == CmpOp.In) = false := by cases op <;> first | rfl | exact absurd rfl h
  have e2 : (op == CmpOp.NotIn) = false := by cases op <;> first | rfl | exact absurd rfl h2
  cases b <;> simp [behindInMarks, e1, e2]
theorem pe_cmpR {op : CmpOp} {r : R2} (ho : OpR X (compareOp op) r) (ha : PE X a ta) (hb : PE X b tb) (hm : behindInMarks op b = false) : PE X (.Compare a [op] [b] pos) (tOp r ta tb) := by
  intro pins s σ H Q I h
  exact wpAny_Compare1 (binT ha hb I h fun v u s2 x y H2 I2 rx ry q => ho pins s2 σ H2 x y v u Q I2 rx ry q) hm
def tTest (t : TE) : TT := fun σ H Q => t σ H fun x H' => ∃ k, x = .bl k ∧ Q k H'
theorem pt_cmpR {op : CmpOp} {r : R2} (ho : OpR X (compareOp op) r) (ha : PE X a ta) (hb : PE X b tb) (hm : behindInMarks op b = false) : PT X (.Compare a [op] [b] pos) (tTest (tOp r ta tb)) := by
  intro pins s σ H Q I h
  refine wpAny_isTrue_Compare1 (thn (ha pins s σ H _ I h) fun v s1 ⟨x, H1, I1, r1, q1⟩ => thn (hb pins s1 σ H1 _ I1 q1) fun u s2 ⟨y, H2, I2, r2, q2⟩ =>
    thn (ho pins s2 σ H2 x y v u _ I2 r1 r2 q2) fun c s3 ⟨z, H3, I3, r3, k, e, q3⟩ => ?_) hm
  subst e
  cases r3
  exact wpAny_truthy_bool ⟨H3, I3, q3⟩
def TruV (K : PySem.W.Frag) (x : V) (H : Hp) (k : Bool) : Prop :=
  match x with
  | .non => k = false
  | .bl b => k = b
  | .int i => k = (i != 0)
  | .str y => y.length ≤ sizeLine ∧ k = ((y.length : Int) != 0)
  | .byt y => y.size ≤ sizeLine ∧ k = ((y.size : Int) != 0)
  | .ref p => (∃ xs, SqL K H p xs ∧ k = !xs.isEmpty) ∨ (∃ xs, SqT K H p xs ∧ k = !xs.isEmpty) ∨ ∃ kvs, H p = some (.dK kvs) ∧ k = !kvs.isEmpty
  | _ => False
theorem isEmpty_kv {κ : Type} {kvs : List (κ × V)} {vs : List (κ × Value)} (r : KV kvs vs) : (!vs.isEmpty) = !kvs.isEmpty := by
  cases r <;> rfl
theorem isEmpty_of {xs : List V} {its : List Value} (r : Vals xs its) : (!its.toArray.isEmpty) = !xs.isEmpty := by
  cases r <;> simp
theorem line63 : (sizeLine : Nat) < 2 ^ 63 := by rw [sizeLine_eq]; decide
theorem tru_ok : TruR X (fun x H Q => ∃ k, TruV X.K x H k ∧ Q k H) := by
  intro pins s σ H x v Q I rx h
  obtain ⟨k, e, q⟩ := h
  have hl := line63
  have hs : sizeLine = 16777216 := sizeLine_eq
  cases x with
  | non =>
    cases rx
    have e' : k = false := e
    subst e'
    exact truthy_none ⟨H, I, q⟩
  | bl b =>
    cases rx
    have e' : k = b := e
    subst e'
    exact wpAny_truthy_bool ⟨H, I, q⟩
  | int i =>
    obtain ⟨t, rfl⟩ := rx
    have e' : k = (i != 0) := e
    subst e'
    exact PySem.P.truthy_int ⟨H, I, q⟩
  | str y =>
    obtain ⟨t, rfl⟩ := rx
    obtain ⟨hy, e'⟩ : y.length ≤ sizeLine ∧ k = ((y.length : Int) != 0) := e
    subst e'
    exact PySem.P.truthy_str (by omega) ⟨H, I.tok _, q⟩
  | byt y =>
    obtain ⟨t, rfl⟩ := rx
    obtain ⟨hy, e'⟩ : y.size ≤ sizeLine ∧ k = ((y.size : Int) != 0) := e
    subst e'
    exact PySem.W.truthy_bytes (by omega) ⟨H, I.tok _, q⟩
  | ref p =>
    cases rx
    have e' : (∃ xs, SqL X.K H p xs ∧ k = !xs.isEmpty) ∨ (∃ xs, SqT X.K H p xs ∧ k = !xs.isEmpty) ∨ ∃ kvs, H p = some (.dK kvs) ∧ k = !kvs.isEmpty := e
    rcases e' with ⟨xs, hx, e'⟩ | ⟨xs, hx, e'⟩ | ⟨kvs, hx, e'⟩
    · subst e'
      obtain ⟨its, r, pl, hz⟩ := I.list hx
      have hlen := r.length
      exact wpAny_truthy_list pl.isList (by simp only [List.size_toArray]; omega) ⟨H, I.tok _, by rw [isEmpty_of r]; exact q⟩
    · subst e'
      obtain ⟨its, r, pl, hz⟩ := I.tuple hx
      have hlen := r.length
      exact truthy_tuple pl (by simp only [List.size_toArray]; omega) ⟨H, I.tok _, by rw [isEmpty_of r]; exact q⟩
    · subst e'
      obtain ⟨hz, hS, vs, r, m⟩ : kvs.length ≤ sizeLine ∧ (p == sysModules) = false ∧ ∃ vs, KV kvs vs ∧ s.heap.DictOf (mixKind X.prog X.w) p vs := I.hok p _ hx
      have hlen : kvs.length = vs.length := Paired.length r
      exact wpAny_truthy_dict hS m (by omega) ⟨H, I.tok _, by rw [isEmpty_kv r]; exact q⟩
  | _ => exact (show False from e).elim
theorem pt_truth (ha : PE X a ta) (he : ∀ whole, isTrue a X.env whole = (do let v ← whole; standAt a.pos; holding [v] (truthy v))) :
    PT X a (fun σ H Q => ta σ H fun x H' => ∃ k, TruV X.K x H' k ∧ Q k H') := by
  intro pins s σ H Q I h
  exact isTrue_plain (thn (ha pins s σ H _ I h) fun v s1 ⟨x, H1, I1, r1, q1⟩ => tru_ok pins s1 σ H1 x v Q I1 r1 q1) (he _)
theorem op_add_str : OpR X (binaryOp .Add) (fun x y H Q => ∃ i j, x = .str i ∧ y = .str j ∧ i.length + j.length ≤ sizeLine ∧ Q (.str (i ++ j)) H) := by
  intro pins s σ H x y v u Q I rx ry h
  obtain ⟨i, j, rfl, rfl, hz, q⟩ := h
  obtain ⟨t, rfl⟩ := rx
  obtain ⟨t', rfl⟩ := ry
  exact add_str (fun t' tk => ⟨.str (i ++ j), H, I.tok _, ⟨_, rfl⟩, q⟩) hz
theorem vals1 {x : V} {us : List Value} (r : Vals [x] us) : ∃ u, us = [u] ∧ RelV x u := by
  cases r with
  | cons r1 r2 => cases r2; exact ⟨_, rfl, r1⟩
theorem vals2 {x y : V} {us : List Value} (r : Vals [x, y] us) : ∃ u w', us = [u, w'] ∧ RelV x u ∧ RelV y w' := by
  cases r with
  | cons r1 r2 =>
    cases r2 with
    | cons r3 r4 => cases r4; exact ⟨_, _, rfl, r1, r3⟩
theorem call_str_int : CallR X (.type "str") (fun xs H Q => ∃ i, xs = [.int i] ∧ i.natAbs.log2 < 1920 ∧ Q (.str (toString i)) H) := by
  intro pins s σ H xs us Q I r h
  obtain ⟨i, rfl, hz, q⟩ := h
  obtain ⟨u, rfl, t, rfl⟩ := vals1 r
  exact PySem.P.str_of_int hz ⟨.str _, H, I.tok _, ⟨_, rfl⟩, q⟩
end
end L2
namespace L2
open PySem PySem.Spec PyProof.Rows
structure ObjM (h : Heap) (x dx C : Addr) (mA : Str → Option Value) : Prop where
  obj : h.get? x = some (PySem.W.instObj C dx)
  ns : h.Ns1 dx mA
  ne : dx ≠ x
theorem lookIn_ns {h : Heap} {dx : Addr} {mA : Str → Option Value} (n : h.Ns1 dx mA) : ∃ od, h.get? dx = some od ∧ ∀ name, PySem.W.lookIn name od = some (mA name) := by
  obtain ⟨o, es, ep, ho, hd, hk, _, hm⟩ := n
  refine ⟨o, ho, fun name => ?_⟩
  have e := hm name
  unfold nsFind findBy at e
  rw [← Array.find?_toList] at e
  unfold PySem.W.lookIn
  rw [hd]
  dsimp only
  split
  · rename_i y q
    rw [q] at e
    exact congrArg some e
  · rename_i q
    rw [q] at e
    have a : es.toList.any (·.refKey) = false := by
      rw [List.any_eq_false]
      intro y hy
      obtain ⟨z, t, hkey⟩ := hk y (Array.mem_toList_iff.mp hy)
      simp [DictEntry.refKey, hkey]
    have a' : ¬ es.toList.any (·.refKey) = true := by rw [a]; exact Bool.false_ne_true
    rw [if_neg a']
    exact congrArg some e
theorem ObjM.look {h : Heap} {x dx C : Addr} {mA : Str → Option Value} (I : ObjM h x dx C mA) : ∃ od, PySem.W.InstAt h x (PySem.W.instObj C dx) C (some od) ∧ ∀ name, PySem.W.lookIn name od = some (mA name) :=
  let ⟨od, ho, hl⟩ := lookIn_ns I.ns
  ⟨od, ⟨I.obj, rfl, rfl, ho⟩, hl⟩
section
variable {prog : Program} {w : World} {A : Around} {E : Value → Shared → Prop} {s : Shared} {K : PySem.W.Frag} {x dx C f : Addr} {mA : Str → Option Value} {name : Str} {v : Value}
end
section
variable {P : Program} {w : World} {H H' : Hp} {h h' : Heap} {a C dx : Addr} {fs fs' : List (Str × V)}
theorem ins_get (hok : HOk P w H h) (e : H a = some (.ins C dx fs)) : ∃ mA, ObjM h a dx C mA ∧ (∀ f, RelO (fs.lookup f) (mA f)) ∧ PySem.Within mA (fs.map (·.1)) ∧ fs.length ≤ 1000 ∧ H dx = some (.own a) := by
  obtain ⟨d, z, ne, ob, mA, n, r, q⟩ := (show ObjOk P w H h a (.ins C dx fs) from hok a _ e)
  exact ⟨mA, ⟨ob, n, ne⟩, r, q, z, d⟩
end
structure Cls (K : PySem.W.Frag) (C : Addr) : Prop where
  pg : PySem.W.plainGet K C Str.empty = true
  hd : PySem.W.hasDictIn K C = true
  po : PySem.W.plainOver K C = true
  sa : PySem.W.findIn K (.ref C) "__setattr__" = some (some (.builtin "object.__setattr__"))
theorem Cls.get {K : PySem.W.Frag} {C : Addr} (c : Cls K C) (f : Str) : PySem.W.plainGet K C f = true := c.pg
section
variable {X : Cx} {pins : List (Addr × Obj)} {σ : St} {H : Hp} {s : Shared} {a C dx : Addr} {fs : List (Str × V)} {f : Str} {v : V} {A : Around} {E : Value → Shared → Prop}
end
section
variable {X : Cx} {o e value : Expr} {f : Str} {pos pos' tpos : Pos} {ta tv : TE}
end
section
variable {X : Cx} {pins : List (Addr × Obj)} {σ : St} {H : Hp} {s : Shared} {A : Around} {E : Value → Shared → Prop} {Q : Value → Shared → Prop} {c : Value} {b : Bool}
inductive TyOf (K : PySem.W.Frag) (H : Hp) : V → Value → Prop where
  | non : TyOf K H .non (.type "NoneType")
  | bl (x : Bool) : TyOf K H (.bl x) (.type "bool")
  | int (i : Int) : TyOf K H (.int i) (.type "int")
  | str (x : Str) : TyOf K H (.str x) (.type "str")
  | flt (x : UInt64) : TyOf K H (.flt x) (.type "float")
  | lst {a : Addr} {xs : List V} (e : H a = some (.lst xs)) : TyOf K H (.ref a) (.type "list")
  | frz {a : Addr} {o : Obj} {xs : List V} (e : H a = some (.frz o (.lst xs))) : TyOf K H (.ref a) (.type "list")
  | tup {a : Addr} {xs : List V} (e : H a = some (.tup xs)) : TyOf K H (.ref a) (.type "tuple")
  | dK {a : Addr} {kvs : List (Key × V)} (e : H a = some (.dK kvs)) : TyOf K H (.ref a) (.type "dict")
  | dT {a : Addr} {kvs : List (List Key × V)} (e : H a = some (.dT kvs)) : TyOf K H (.ref a) (.type "dict")
  | ins {a C dx : Addr} {fs : List (Str × V)} (e : H a = some (.ins C dx fs)) (cl : Cls K C) (ha : PySem.W.findIn K (.ref C) "__class__" = some (some (.builtin "object.__class__")))
      (hn : PySem.W.specialIn K (.builtin "object.__class__") "__get__" = some (some (.builtin "getset_descriptor.__get__"))) (htk : PySem.W.takesIn K (.builtin "object.__class__") = some true)
      (hm : PySem.W.mroIn K C (.type "object") = some true) : TyOf K H (.ref a) (.ref C)
end
end L2
namespace L2
open PySem PySem.Spec PyProof.Rows
structure Room (k : Nat) (A : Around) : Prop where
  hd : A.handled = none
  dp : A.depth + 3 * k + 5 < recursionLimit
  un : A.units + 16 * k + 200 < cLine
theorem Room.mono {j k : Nat} {A : Around} (r : Room k A) (h : j ≤ k) : Room j A := ⟨r.hd, by have := r.dp; omega, by have := r.un; omega⟩
theorem Room.deeper {k : Nat} {A : Around} (r : Room (k + 1) A) (env : Env) : Room k (A.deeper env) :=
  ⟨r.hd, by have := r.dp; show A.depth + 1 + 3 * k + 5 < _; omega, by have := r.un; show A.units + 3 + 16 * k + 200 < _; omega⟩
theorem Room.depth {k : Nat} {A : Around} (r : Room k A) : A.depth < recursionLimit := by have := r.dp; omega
theorem Room.units {k : Nat} {A : Around} (r : Room k A) : A.units + 64 < cLine := by have := r.un; omega
def tNil : TA := fun _ H Q => Q [] H
def tCons (ta : TE) (tr : TA) : TA := fun σ H Q => ta σ H fun x H1 => tr σ H1 fun xs H2 => Q (x :: xs) H2
section
variable {X : Cx} {e : Expr} {es : List Expr} {te : TE} {t : TA} {pos : Pos}
theorem pa_nil : PA X [] tNil := fun _ _ _ _ H Q I h => Calls.spliced_nil ⟨[], H, I, .nil, h⟩
theorem pa_cons (ha : PE X e te) (hr : PA X es t) (hs : starEach (e :: es) X.env = (false, eval e X.env) :: starEach es X.env := by rfl) : PA X (e :: es) (tCons te t) := by
  intro pos pins s σ H Q I h
  rw [hs]
  show wpAny _ _ (spliced ((false, eval e X.env) :: backTo pos (starEach es X.env))) _ _ s
  refine Calls.spliced_cons (thn (ha pins s σ H _ I h) fun u s1 ⟨x, H1, I1, r1, q1⟩ => ?_)
  exact thn (hr pos pins s1 σ H1 _ I1 q1) fun us s2 ⟨xs, H2, I2, r2, q2⟩ => ⟨x :: xs, H2, I2, .cons r1 r2, q2⟩
def tTup (t : TA) : TE := fun σ H Q => t σ H fun xs H1 => xs.length ≤ sizeLine ∧ ∀ p, H1 p = none → Q (.ref p) (upd H1 p (.tup xs))
def tLst (t : TA) : TE := fun σ H Q => t σ H fun xs H1 => xs.length ≤ sizeLine ∧ ∀ p, H1 p = none → Q (.ref p) (upd H1 p (.lst xs))
theorem pe_tup {x1} (h : PA X es t) : PE X (.Tuple es x1 pos) (tTup t) := by
  intro pins s σ H Q I hq
  refine wpAny_Tuple_spliced (thn (h pos pins s σ H _ I hq) fun us s1 ⟨xs, H1, I1, r, z, q⟩ => ⟨by rw [← r.length]; exact z, ?_⟩)
  have hf : H1 s1.heap.objs.size = none := I1.hok.fresh (Nat.le_refl _)
  refine ⟨.ref s1.heap.objs.size, upd H1 s1.heap.objs.size (.tup xs), I1.laid (t' := s1.toks) (fun b u e => Heap.get?_push_of_some _ e) (Nat.le_refl _) ?_, rfl, q _ hf⟩
  exact ⟨z, us, r, ⟨_, Heap.get?_push_size _ rfl, rfl, _, rfl⟩⟩
theorem pe_lst (h : PA X es t) : PE X (.List es pos) (tLst t) := by
  intro pins s σ H Q I hq
  refine wpAny_List_spliced (thn (h pos pins s σ H _ I hq) fun us s1 ⟨xs, H1, I1, r, z, q⟩ => ⟨by rw [← r.length]; exact z, ?_⟩)
  have hf : H1 s1.heap.objs.size = none := I1.hok.fresh (Nat.le_refl _)
  refine ⟨.ref s1.heap.objs.size, upd H1 s1.heap.objs.size (.lst xs), I1.laid (t' := s1.toks) (fun b u e => Heap.get?_push_of_some _ e) (Nat.le_refl _) ?_, rfl, q _ hf⟩
  exact ⟨z, us, 0, r, Heap.get?_push_size _ rfl⟩
end
abbrev Sp := List V → Hp → VK → XK → Prop
abbrev CXT := List Env → Hp → Shared → XK → Value → Shared → Prop
structure Env0 (P : Program) (w : World) (K : PySem.W.Frag) (mg : Str → Option Value) (base : Heap) (A : Around) (outer : List Env) (s : Shared) (H : Hp) : Prop where
  frames : A.frames = some outer
  mod : Mod K mg base
  bs : ∀ b o, base.get? b = some o → s.heap.get? b = some o ∧ H b = none
  bsz : base.objs.size ≤ s.heap.objs.size
  funs : s.heap.FunFrames base outer
  frf : ∀ b ∈ frs outer, H b = none
  hok : HOk P w H s.heap
  bare : AllBare s.gens
def CE (outer : List Env) (P : Program) (w : World) (H : Hp) (s : Shared) (Q : VK) (u : Value) (s' : Shared) : Prop :=
  ∃ v H', s'.os = s.os ∧ AllBare s'.gens ∧ Un (frs outer) [] H H' s.heap s'.heap ∧ HOk P w H' s'.heap ∧ RelV v u ∧ Q v H'
def CR (CX : CXT) (outer : List Env) (P : Program) (w : World) (H : Hp) (s : Shared) (Q : VK) (E : XK) (r : Result) (s' : Shared) : Prop :=
  match r with
  | .ok (.ret u) => CE outer P w H s Q u s'
  | .ok _ => False
  | .error e => CX outer H s E e s'
structure FnOk (P : Program) (w : World) (K : PySem.W.Frag) (mg : Str → Option Value) (base : Heap) (CX : CXT) (k : Nat) (f : Addr) (fd : FuncData) (ps : List Str) (sp : Sp) : Prop where
  len : ∀ vs H Q E, sp vs H Q E → vs.length = ps.length
  run : ∀ (A : Around) (outer : List Env) (s : Shared) (H : Hp) (args : Args) (us : List Value) (vs : List V) (Q : VK) (E : XK), Room k A → Env0 P w K mg base A outer s H → BindsTo s fd args (ps.zip us) → Vals vs us → sp vs H Q E →
    codeAny (model P w) A (.call (.ref f) args) (CR CX outer P w H s Q E) s
section
variable {X : Cx} {pins : List (Addr × Obj)} {σ : St} {H : Hp} {s s' : Shared}
theorem Inv.env0 (I : Inv X pins σ H s) : Env0 X.prog X.w X.K X.mg X.base X.A X.stack s H :=
  ⟨I.ok.frames, I.ok.mod, I.bs, Nat.le_trans I.ok.bsz I.sz, I.stack, I.stkFree, I.hok, I.bare⟩
theorem Inv.after {Q : VK} {u : Value} (I : Inv X pins σ H s) (h : CE X.stack X.prog X.w H s Q u s') : EP X pins σ Q u s' := by
  obtain ⟨v, H', os, bare, un, hok, r, q⟩ := h
  obtain ⟨hh, g, d, t, os'⟩ := s'
  obtain rfl : os' = s.os := os
  exact ⟨v, H', I.call (h' := hh) (g' := g) (d' := d) (t' := t) (ch := []) un hok bare (fun b z => absurd z (by simp)), r, q⟩
end
def tCall (sp : Sp) (dvs : List V) (E : XK) (t : TA) : TE := fun σ H Q => t σ H fun vs H1 => sp (vs ++ dvs) H1 Q E
def Binds (K : PySem.W.Frag) (fd : FuncData) (ps : List Str) (ds : List Value) : Prop :=
  ∀ (s : Shared) (us : List Value), K.In s.heap → (us ++ ds).length = ps.length → BindsTo s fd ⟨us, []⟩ (ps.zip (us ++ ds))
theorem Binds.all {K : PySem.W.Frag} {fd : FuncData} {ps : List Str} (h : ∀ us : List Value, us.length = ps.length → bindArgs fd ⟨us, []⟩ = pure (ps.zip us)) : Binds K fd ps [] := fun s us _ hl => by
  rw [List.append_nil] at hl ⊢
  exact .of_eq (h us hl)
def Passes (CX : CXT) (X : Cx) (E : XK) : Prop := ∀ (pins : List (Addr × Obj)) (σ : St) (H : Hp) (s : Shared) (e : Value) (s' : Shared), Inv X pins σ H s → CX X.stack H s E e s' → X.xe e s'
section
variable {X : Cx} {CX : CXT} {k : Nat} {f C : Addr} {fd : FuncData} {ps : List Str} {sp : Sp} {dvs : List V} {ds : List Value} {E : XK} {x m : Str} {p pos apos : Pos} {e o : Expr} {es : List Expr} {ta : TE} {t : TA}
theorem run_fn {pins : List (Addr × Obj)} {σ : St} {H : Hp} {s : Shared} {Q : VK} {us : List Value} {vs : List V} (F : FnOk X.prog X.w X.K X.mg X.base CX k f fd ps sp) (hr : Room k X.A) (hb : Binds X.K fd ps ds) (hd : Vals dvs ds) (hx : Passes CX X E)
    (I : Inv X pins σ H s) (r : Vals vs us) (h : sp (vs ++ dvs) H Q E) : wpAny (model X.prog X.w) X.A (call (.ref f) us) (EP X pins σ Q) X.xe s := by
  have r2 : Vals (vs ++ dvs) (us ++ ds) := r.append hd
  have hl : (us ++ ds).length = ps.length := by rw [← r2.length]; exact F.len _ _ _ _ h
  refine wpAny_call (codeAny_mono (F.run X.A X.stack s H ⟨us, []⟩ (us ++ ds) (vs ++ dvs) Q E hr I.env0 (hb s us I.kIn hl) r2 h) fun r s' hq => ?_)
  cases r with
  | error e => exact hx pins σ H s e s' I hq
  | ok fl =>
    cases fl with
    | ret u => exact I.after hq
    | next => exact False.elim hq
    | brk => exact False.elim hq
    | cont => exact False.elim hq
theorem pe_call (F : FnOk X.prog X.w X.K X.mg X.base CX k f fd ps sp) (hr : Room k X.A) (hg : Gl X x) (hm : X.mg x = some (.ref f)) (hk : PySem.W.keepIn X.K (.ref f) = true) (hb : Binds X.K fd ps ds) (hd : Vals dvs ds) (hx : Passes CX X E)
    (ha : PA X (e :: es) t) (hdb : (x == ("__debug__" : Str)) = false := by decide) (he : starEach (e :: es) X.env = (false, eval e X.env) :: starEach es X.env := by rfl) (hpl : (backTo pos (starEach es X.env)).any (·.1) = false := by rfl) :
    PE X (.Call (.Name x p) (e :: es) [] pos) (tCall sp dvs E t) := by
  intro pins s σ H Q I h
  refine wpAny_Call_Name_kw (ld_glob I hg hm ?_ hdb)
  refine PySem.W.callWith_K (h₀ := X.base) I.ok.mod.kin hk (thn (ha pos pins s σ H _ I h) fun us s1 ⟨vs, H1, I1, r, q⟩ => ⟨I1.kIn, ?_⟩) he hpl
  exact run_fn F hr hb hd hx I1 r q
end
section
variable {X : Cx} {CX : CXT} {k : Nat} {f C : Addr} {fd : FuncData} {ps ks : List Str} {sp : Sp} {E : XK} {x m : Str} {p pos apos kpos : Pos} {e o : Expr} {es : List Expr} {kws : List Keyword} {te ta : TE} {t tk : TA} {nm : Option Str}
variable {g : List Value → List Value → List Value} {gV : List V → List V → List V}
end
structure FnScope (N P : List Str) (sc : Scope) : Prop where
  kind : sc.kind = .function
  co : sc.isCoroutine = false
  gen : sc.isGenerator = false
  nd : N.Nodup
  pre : N.take P.length = P
  par : ∀ x ∈ P, sc.names.lookup x = some .local ∨ sc.names.lookup x = some .cell
  nofree : ∀ y ∈ sc.names, y.2 ≠ .free
theorem bindL_out {kindOf : Str → Option NameKind} {x : Str} : ∀ {binds : List (Str × Value)} {m : Str → Option Value}, (∀ v, (x, v) ∉ binds) → bindL kindOf binds m x = m x
  | [], _, _ => rfl
  | (n, v) :: r, m, h => by
    unfold bindL
    rw [bindL_out fun w hw => h w (List.mem_cons_of_mem _ hw)]
    split
    · have : x ≠ n := by rintro rfl; exact h v List.mem_cons_self
      simp [this]
    · rfl
theorem bindC_out {kindOf : Str → Option NameKind} {x : Str} : ∀ {binds : List (Str × Value)} {m : Str → Option Value}, (∀ v, (x, v) ∉ binds) → bindC kindOf binds m x = m x
  | [], _, _ => rfl
  | (n, v) :: r, m, h => by
    unfold bindC
    rw [bindC_out fun w hw => h w (List.mem_cons_of_mem _ hw)]
    split
    · rfl
    · have : x ≠ n := by rintro rfl; exact h v List.mem_cons_self
      simp [this]
theorem bindL_get {kindOf : Str → Option NameKind} {x : Str} {v : Value} : ∀ {P : List Str} {vs : List Value} {i : Nat} {m : Str → Option Value}, P.Nodup → P[i]? = some x → vs[i]? = some v → kindOf x = some .local →
    bindL kindOf (P.zip vs) m x = some v
  | [], _, _, _, _, h, _, _ => by simp at h
  | _ :: _, [], _, _, _, _, h, _ => by simp at h
  | p :: P, w :: vs, 0, m, nd, h1, h2, hk => by
    simp at h1 h2; subst h1; subst h2
    show bindL kindOf ((p, w) :: P.zip vs) m p = _
    unfold bindL
    rw [bindL_out fun v hv => (List.nodup_cons.mp nd).1 (List.of_mem_zip hv).1, if_pos hk]
    simp
  | p :: P, w :: vs, i + 1, m, nd, h1, h2, hk => by
    show bindL kindOf ((p, w) :: P.zip vs) m x = _
    unfold bindL
    exact bindL_get (i := i) (List.nodup_cons.mp nd).2 (by simpa using h1) (by simpa using h2) hk
theorem bindC_get {kindOf : Str → Option NameKind} {x : Str} {v : Value} : ∀ {P : List Str} {vs : List Value} {i : Nat} {m : Str → Option Value}, P.Nodup → P[i]? = some x → vs[i]? = some v → kindOf x ≠ some .local →
    bindC kindOf (P.zip vs) m x = some v
  | [], _, _, _, _, h, _, _ => by simp at h
  | _ :: _, [], _, _, _, _, h, _ => by simp at h
  | p :: P, w :: vs, 0, m, nd, h1, h2, hk => by
    simp at h1 h2; subst h1; subst h2
    show bindC kindOf ((p, w) :: P.zip vs) m p = _
    unfold bindC
    rw [bindC_out fun v hv => (List.nodup_cons.mp nd).1 (List.of_mem_zip hv).1, if_neg hk]
    simp
  | p :: P, w :: vs, i + 1, m, nd, h1, h2, hk => by
    show bindC kindOf ((p, w) :: P.zip vs) m x = _
    unfold bindC
    exact bindC_get (i := i) (List.nodup_cons.mp nd).2 (by simpa using h1) (by simpa using h2) hk
def start (N : List Str) (vs : List V) : St := vs.map some ++ List.replicate (N.length - vs.length) none
def cxOf (CX : CXT) (P : Program) (w : World) (K : PySem.W.Frag) (mg : Str → Option Value) (base : Heap) (N : List Str) (qual : Str) (scope : Scope) (f : Addr) (cd : Value) (A : Around) (outer : List Env) (s : Shared) (H : Hp) (E : XK) : Cx where
  prog := P
  w := w
  K := K
  mg := mg
  base := base
  A := A.deeper (envOfC qual scope s.heap.objs.size f cd)
  N := N
  s₀ := s
  H₀ := H
  env := envOfC qual scope s.heap.objs.size f cd
  outer := outer
  stack := envOfC qual scope s.heap.objs.size f cd :: outer
  ex := []
  calm := true
  fn := fun _ => true
  pn := []
  xe := fun e s' => wpAny (model P w) (A.deeper (envOfC qual scope s.heap.objs.size f cd)) (leaving (envOfC qual scope s.heap.objs.size f cd) e) (fun _ s'' => CX outer H s E e s'') (fun e' s'' => CX outer H s E e' s'') s'
theorem cell_has {sc : Scope} {n : Nat} {x : Str} (h : sc.names.lookup x = some .cell) : ∃ c, (cellsFrom n sc.names []).lookup x = some c := by
  have q := PySem.W.cellsFrom_some sc.names n [] (.inl h)
  exact Option.isSome_iff_exists.mp q
theorem inv_start {CX : CXT} {P : Program} {w : World} {K : PySem.W.Frag} {mg : Str → Option Value} {base : Heap} {N ps : List Str} {qual : Str} {scope : Scope} {f : Addr} {cd : Value} {A : Around} {outer : List Env} {s s1 : Shared} {H : Hp} {E : XK} {us : List Value} {vs : List V}
    (S : FnScope N ps scope) (hd : A.handled = none) (e0 : Env0 P w K mg base A outer s H) (hl : vs.length = ps.length) (r : Vals vs us)
    (x : InCallC s s.heap.objs.size (bindL (envOfC qual scope s.heap.objs.size f cd).kindOf (ps.zip us) fun _ => none) (cellsFrom (s.heap.objs.size + 1) scope.names []) (bindC (envOfC qual scope s.heap.objs.size f cd).kindOf (ps.zip us) fun _ => none) s1) :
    Inv (cxOf CX P w K mg base N qual scope f cd A outer s H E) [] (start N vs) H s1 := by
  have hpl : ps.length ≤ N.length := by have := congrArg List.length S.pre; rw [List.length_take] at this; omega
  obtain ⟨h1, tk, rfl, hk⟩ := x.done
  have noA : ∀ b : Addr, b ∉ (cxOf CX P w K mg base N qual scope f cd A outer s H E).ex := fun b z => absurd (show b ∈ ([] : List Addr) from z) (by simp)
  refine ⟨⟨e0.mod, S.kind, rfl, rfl, Nat.le_refl _, fun y z c h1 h2 => ?_, fun y hy => ?_, fun y c _ h => ?_, fun _ => hd, Around.frames_deeper e0.frames, .inr ⟨rfl, rfl⟩, fun b z => absurd z (noA b), e0.bs, e0.bsz, fun b _ _ => noA b, fun b z => absurd z (noA b), e0.funs, e0.frf⟩,
    rfl, e0.bare, Un.kept hk, ⟨_, x.toInCall.ns, fun i y v h1 h2 h3 => ?_⟩, fun y c h => ⟨_, x.cell y c h⟩, e0.hok.fresh (Nat.le_refl _), fun y c h => ?_, fun p hp => absurd (show p ∈ ([] : List (Addr × Obj)) from hp) (by simp), e0.hok.kept hk, ?_⟩
  · exact name_of_addr x.apart (PySem.mem_of_lookup h1) (PySem.mem_of_lookup h2)
  · have hy : scope.names.lookup y = some .cell ∨ scope.names.lookup y = some .free := hy
    rcases hy with hy | hy
    · exact cell_has hy
    · exact absurd rfl (S.nofree _ (PySem.mem_of_lookup hy))
  · exact Nat.le_of_lt (x.above y c (PySem.mem_of_lookup h))
  · have hi : i < vs.length := by
      unfold start at h2
      by_cases hi : i < vs.length
      · exact hi
      · rw [List.getElem?_append_right (by simpa using hi)] at h2
        rw [List.getElem?_replicate] at h2
        split at h2 <;> cases h2
    have ha : vs[i]? = some v := by
      unfold start at h2
      rw [List.getElem?_append_left (by simpa using hi), List.getElem?_map] at h2
      cases e : vs[i]? with
      | none => rw [e] at h2; cases h2
      | some a => rw [e] at h2; cases h2; rfl
    obtain ⟨u, hu, rv⟩ := r.get ha
    have hp : ps[i]? = some y := by
      rw [← S.pre, List.getElem?_take_of_lt (by omega)]; exact h1
    have ndP : ps.Nodup := by rw [← S.pre]; exact S.nd.sublist (List.take_sublist _ _)
    refine ⟨u, rv, ?_⟩
    rcases S.par y (List.mem_of_getElem? hp) with k | k
    · exact .inl ⟨k, bindL_get ndP hp hu k⟩
    · obtain ⟨c, e⟩ := cell_has (n := s.heap.objs.size + 1) k
      refine .inr ⟨.inl k, c, e, ?_⟩
      have q := x.cell y c e
      rw [bindC_get ndP hp hu (by show scope.names.lookup y ≠ _; rw [k]; decide)] at q
      exact q
  · exact e0.hok.fresh (Nat.le_of_lt (x.above y c (PySem.mem_of_lookup h)))
  · unfold start
    show _ = N.length
    rw [List.length_append, List.length_map, List.length_replicate]
    omega
theorem fn_of {CX : CXT} {P : Program} {w : World} {K : PySem.W.Frag} {mg : Str → Option Value} {base : Heap} {k : Nat} {f : Addr} {name qual : Str} {params : Arguments} {body : List Stmt} {scope : Scope} {dV kV doc pm cdv ct oc : Value} {an od : Option Addr}
    {osl : Array (Option Value)} {N ps : List Str} {sp : Sp} (lk : K.lookup f = some ⟨oc, od, .func (PySem.W.fnOf name qual params body scope dV kV doc pm an cdv ct), osl⟩) (hcd : PySem.W.codeIn K cdv qual = true) (S : FnScope N ps scope)
    (len : ∀ vs H Q E, sp vs H Q E → vs.length = ps.length)
    (hbody : ∀ (A : Around) (outer : List Env) (s : Shared) (H : Hp) (vs : List V) (Q : VK) (E : XK), Room k (A.deeper (envOfC qual scope s.heap.objs.size f cdv)) → sp vs H Q E →
      ∃ t, PSs (cxOf CX P w K mg base N qual scope f cdv A outer s H E) body t ∧ t { nx := fun _ H' => Q .non H', rt := Q } (start N vs) H) :
    FnOk P w K mg base CX (k + 1) f (PySem.W.fnOf name qual params body scope dV kV doc pm an cdv ct) ps sp := by
  refine ⟨len, fun A outer s H args us vs Q E hr e0 hb r hsp => ?_⟩
  have hl := len _ _ _ _ hsp
  have KX : K.In s.heap := e0.mod.kin.keeps fun b o e => (e0.bs b o e).1
  have lim : s.heap.NoLimit := e0.mod.nolimit.keeps fun b o e => (e0.bs b o e).1
  have hkind : ∀ y ∈ ps.zip us, scope.names.lookup y.1 = some .local ∨ (scope.names.lookup y.1 = some .cell ∧ ((cellsFrom (s.heap.objs.size + 1) scope.names []).lookup y.1).isSome = true) := fun ⟨n, v⟩ hy => by
    rcases S.par n (List.of_mem_zip hy).1 with q | q
    · exact .inl q
    · exact .inr ⟨q, PySem.W.cellsFrom_some _ _ _ (.inl q)⟩
  refine codeAny_call_function hr.depth (KX _ _ lk) rfl S.co S.gen rfl (PySem.W.codeRec_of KX hcd) (hb _ _ _ _ ?_)
  refine wpAny_newFunctionEnv_cells S.kind hkind fun env he s1 x => ?_
  subst he
  refine ⟨lim.keeps x.toInCall.keep, codeAny_func ?_⟩
  obtain ⟨t, ht, hq⟩ := hbody A outer s H vs Q E (hr.deeper _) hsp
  have I : Inv (cxOf CX P w K mg base N qual scope f cdv A outer s H E) [] (start N vs) H s1 := inv_start S hr.hd e0 hl r x
  refine wpAny_mono (ht [] s1 (start N vs) H _ I hq) (fun fl s' hs => ?_) fun e s' hs => hs
  have fin : ∀ {σ' : St} {H' : Hp} {v : V} {u : Value}, Inv (cxOf CX P w K mg base N qual scope f cdv A outer s H E) [] σ' H' s' → RelV v u → Q v H' → CE outer P w H s Q u s' :=
    fun {σ' H' v u} J rv q => ⟨v, H', J.os, J.bare, J.base, J.hok, rv, q⟩
  cases fl with
  | ret u =>
    obtain ⟨v, σ', H', J, rv, q⟩ := hs
    exact fin J rv q
  | next =>
    obtain ⟨σ', H', J, q⟩ := hs
    exact fin (v := V.non) (u := Value.none) J rfl q
  | brk =>
    obtain ⟨_, _, _, q⟩ := hs
    exact False.elim q
  | cont =>
    obtain ⟨_, _, _, q⟩ := hs
    exact False.elim q
end L2
namespace L2
open PySem PySem.Spec PyProof.Rows
section
variable {X : Cx} {x : Str} {p pos : Pos} {e : Expr} {es : List Expr} {t : TA} {id T : String} {r : List V → Hp → VK → Prop}
def tCB (r : List V → Hp → VK → Prop) (t : TA) : TE := fun σ H Q => t σ H fun vs H1 => r vs H1 Q
theorem pe_callB (hc : CallR X (.builtin id) r) (hg : Gl X x) (hm : X.mg x = none) (hv : bootBuiltins x = some (.builtin id)) (ha : PA X (e :: es) t) (hn : x ≠ "__name__" := by decide) (hdb : (x == ("__debug__" : Str)) = false := by decide)
    (he : starEach (e :: es) X.env = (false, eval e X.env) :: starEach es X.env := by rfl) (hpl : (backTo pos (starEach es X.env)).any (·.1) = false := by rfl) : PE X (.Call (.Name x p) (e :: es) [] pos) (tCB r t) := by
  intro pins s σ H Q I h
  refine wpAny_Call_Name_kw (ld_blt I hg hm hv ?_ hn hdb)
  exact PyProof.Rows.callWith_builtin1 (thn (ha pos pins s σ H _ I h) fun us s1 ⟨vs, H1, I1, r1, q1⟩ => hc pins s1 σ H1 vs us Q I1 r1 q1) he hpl
theorem pe_callTy (hc : CallR X (.type T) r) (hg : Gl X x) (hm : X.mg x = none) (hv : bootBuiltins x = some (.type T)) (ha : PA X (e :: es) t) (hn : x ≠ "__name__" := by decide) (hdb : (x == ("__debug__" : Str)) = false := by decide)
    (he : starEach (e :: es) X.env = (false, eval e X.env) :: starEach es X.env := by rfl) (hpl : (backTo pos (starEach es X.env)).any (·.1) = false := by rfl) : PE X (.Call (.Name x p) (e :: es) [] pos) (tCB r t) := by
  intro pins s σ H Q I h
  refine wpAny_Call_Name_kw (ld_blt I hg hm hv ?_ hn hdb)
  exact PyProof.Rows.callWith_type1 (thn (ha pos pins s σ H _ I h) fun us s1 ⟨vs, H1, I1, r1, q1⟩ => hc pins s1 σ H1 vs us Q I1 r1 q1) he hpl
end
end L2
namespace HT
open PySem PyProof.Rows
section
open PySem.SeqAt
open PySem.AutoSeq1 (wpAny_loadPart')
open PySem.MeetsSeq PySem.MeetsSeq2 PySem.MeetsSeq3
end
section
variable {prog : Program} {w : World} {A : Around} {E : Value → Shared → Prop} {s : Shared}
theorem cat_tup {t b : Addr} {vs ws : List Value} {Q : Value → Shared → Prop} (ht : IsTup s.heap t vs.toArray) (hb : IsTup s.heap b ws.toArray) (hv : vs ≠ [])
    (h1 : ws = [] → Q (.ref t) s) (h2 : ws ≠ [] → Q (.ref s.heap.objs.size) { s with heap := s.heap.push { cls := .type "tuple", data := .seq (vs ++ ws).toArray } })
    (hsz : vs.length + ws.length ≤ sizeLine) : wpAny (model prog w) A (binaryOp .Add (.ref t) (.ref b)) Q E s := by
  obtain ⟨⟨cls, dd, data, sl⟩, ho, hc, n, hd⟩ := id ht
  obtain ⟨⟨cls2, dd2, data2, sl2⟩, ho2, hc2, n2, hd2⟩ := id hb
  simp only at hc hd hc2 hd2
  subst hc hd hc2 hd2
  have e : vs.toArray ++ ws.toArray = (vs ++ ws).toArray := by simp
  by_cases hw : ws = []
  · exact concat_meets ⟨_, ho, rfl⟩ ⟨_, ho2, rfl⟩ noFill_tuple_add seq_tuple_add PySem.F.slot_tuple_add PySem.F.entry_tuple_add (PySem.F.args_tuple_add_2 _ _)
      (tuple_addW1 t b vs.toArray ws.toArray n n2 dd dd2 sl sl2 (by simpa using hv) (by simp [hw])) ⟨ho, ho2, h1 hw⟩
  · refine concat_meets ⟨_, ho, rfl⟩ ⟨_, ho2, rfl⟩ noFill_tuple_add seq_tuple_add PySem.F.slot_tuple_add PySem.F.entry_tuple_add (PySem.F.args_tuple_add_2 _ _)
      (tuple_addW2 t b vs.toArray ws.toArray n n2 dd dd2 sl sl2 (by simpa using hv) (by simpa using hw) (by rw [List.size_toArray, List.size_toArray]; exact hsz)) ⟨ho, ho2, ?_⟩
    rw [e]
    exact h2 hw
def sIx (n d : Nat) : Option Int → Nat
  | none => d
  | some v => if v < 0 then (v + (n : Int)).toNat else min v.toNat n
theorem sIx_none (n d : Nat) : sIx n d none = d := rfl
theorem sIx_nat (n d k : Nat) : sIx n d (some (k : Int)) = min k n := by
  show (if (k : Int) < 0 then ((k : Int) + (n : Int)).toNat else min (k : Int).toNat n) = min k n
  rw [if_neg (by omega), Int.toNat_natCast]
theorem sIx_le (n d : Nat) (hd : d ≤ n) (o : Option Int) : sIx n d o ≤ n := by
  cases o with
  | none => exact hd
  | some v =>
    show (if v < 0 then (v + (n : Int)).toNat else min v.toNat n) ≤ n
    by_cases hv : v < 0
    · rw [if_pos hv]; omega
    · rw [if_neg hv]; exact Nat.min_le_right _ _
theorem clip_eq (v : Int) (n d : Nat) : (if v < 0 then max (v + (n : Int)) 0 else min v (n : Int)) = ((sIx n d (some v) : Nat) : Int) := by
  show (if v < 0 then max (v + (n : Int)) 0 else min v (n : Int)) = (((if v < 0 then (v + (n : Int)).toNat else min v.toNat n) : Nat) : Int)
  by_cases hv : v < 0
  · simp only [if_pos hv]; omega
  · simp only [if_neg hv]; omega
theorem adjust_gen (lo hi : Option Int) (n : Nat) : Builtin.Slice.sliceAdjust lo hi 1 (n : Int) = (((sIx n 0 lo : Nat) : Int), ((sIx n n hi : Nat) : Int)) := by
  have h1 : ¬ ((1 : Int) < 0) := by omega
  unfold Builtin.Slice.sliceAdjust
  simp only [h1, if_false]
  refine Prod.ext ?_ ?_
  · cases lo with
    | none => rfl
    | some v => exact clip_eq v n 0
  · cases hi with
    | none => rfl
    | some v => exact clip_eq v n n
theorem places_gen (i j : Nat) : Builtin.Slice.slicePlaces (i : Int) (j : Int) 1 = j - i := by
  unfold Builtin.Slice.slicePlaces
  have h1 : (1 : Int) > 0 := by omega
  simp only [h1, if_true, Int.ediv_one]
  split <;> omega
theorem slicePart_ {v : Value} {o : Option Int} {Q : Option Int → Shared → Prop} (p : IsPart v o) (h : Q o s) : wpAny (model prog w) A (Builtin.Slice.slicePartIndex v) Q E s := by
  cases p with
  | none => exact slicePart_none h
  | int i t => exact slicePart_int h
theorem sliceApplied_gen {sl : Addr} {vl vu : Value} {lo hi : Option Int} {n : Nat} {Q : Int × Int × Nat → Shared → Prop} (hs : s.heap.IsSliceOf sl vl vu .none) (pl : IsPart vl lo) (pu : IsPart vu hi)
    (h : Q (((sIx n 0 lo : Nat) : Int), 1, sIx n n hi - sIx n 0 lo) s) : wpAny (model prog w) A (Builtin.Slice.sliceApplied (.ref sl) (pure (n : Int))) Q E s := by
  obtain ⟨os, hos, hcs, hds⟩ := id hs
  unfold Builtin.Slice.sliceApplied Builtin.Slice.sliceFields
  refine wpAny_bind (wpAny_bind (wpAny_field hos hds (x := vl) rfl (wpAny_bind (wpAny_field hos hds (x := vu) rfl (wpAny_bind (wpAny_field hos hds (x := .none) rfl (wpAny_pure ?_)))))))
  refine wpAny_bind (slicePart_none ?_)
  show wpAny _ _ (if ((1 : Int) == 0) = true then _ else _) _ _ s
  rw [if_neg (by decide)]
  refine wpAny_bind (slicePart_ pl (wpAny_bind (slicePart_ pu (wpAny_bind (wpAny_pure ?_)))))
  show wpAny _ _ (match Builtin.Slice.sliceAdjust lo hi 1 (n : Int) with | (lo, hi) => pure (lo, (1 : Int), Builtin.Slice.slicePlaces lo hi 1)) _ _ s
  rw [adjust_gen lo hi n]
  show wpAny _ _ (pure (((sIx n 0 lo : Nat) : Int), (1 : Int), Builtin.Slice.slicePlaces ((sIx n 0 lo : Nat) : Int) ((sIx n n hi : Nat) : Int) 1)) _ _ s
  rw [places_gen]
  exact wpAny_pure h
theorem pick_gen (xs : Array Value) (i k : Nat) : ((List.range k).filterMap fun (m : Nat) => xs[((i : Int) + (m : Int) * 1).toNat]?).toArray = ((xs.toList.drop i).take k).toArray := by
  have e : (fun (m : Nat) => xs[((i : Int) + (m : Int) * 1).toNat]?) = fun m => xs[i + m]? := by
    funext m
    have : ((i : Int) + (m : Int) * 1).toNat = i + m := by omega
    rw [this]
  rw [e]
  have := pick_run xs i k
  rw [List.filterMap_map] at this
  have e2 : ((fun x => xs[x]?) ∘ fun x => i + x) = fun m => xs[i + m]? := rfl
  rw [e2] at this
  rw [this]
theorem getItem_tuple_cut {t sl : Addr} {items : Array Value} {vl vu : Value} {lo hi : Option Int} {Q : Value → Shared → Prop} (ht : IsTup s.heap t items) (hs : s.heap.IsSliceOf sl vl vu .none) (pl : IsPart vl lo) (pu : IsPart vu hi)
    (hw : ¬ (sIx items.size 0 lo = 0 ∧ sIx items.size items.size hi = items.size))
    (h : Q (.ref s.heap.objs.size) { s with heap := s.heap.push { cls := .type "tuple", data := .seq ((items.toList.drop (sIx items.size 0 lo)).take (sIx items.size items.size hi - sIx items.size 0 lo)).toArray } })
    (hsz : items.size ≤ sizeLine) : wpAny (model prog w) A (getItem (.ref t) (.ref sl)) Q E s := by
  have htake : sizeOk (.seq ((items.toList.drop (sIx items.size 0 lo)).take (sIx items.size items.size hi - sIx items.size 0 lo)).toArray) := by
    show ((items.toList.drop (sIx items.size 0 lo)).take (sIx items.size items.size hi - sIx items.size 0 lo)).toArray.size ≤ sizeLine
    rw [List.size_toArray, List.length_take, List.length_drop, Array.length_toList]
    omega
  have hj : sIx items.size items.size hi ≤ items.size := sIx_le _ _ (Nat.le_refl _) hi
  obtain ⟨os, hos, hcs, hds⟩ := id hs
  have hTs : s.TypeIs (.ref sl) "slice" := ⟨os, hos, hcs⟩
  unfold getItem
  try with_reducible refine wpAny_holding ?_
  first | refine wpAny_bind (wpAny_pure ?_) | skip
  refine wpAny_bind (wpAny_sequenceKey ht.typeIs (by decide) ?_)
  refine wpAny_bind (wpAny_callSpecial?_slot (name := Str.ofString "__getitem__") ht.typeIs PyProof.Rows.slot_tuple_getitem
    (wpAny_call_entry PyProof.Rows.slot_tuple_getitem ht.typeIs entry_tuple_getitem ?_ (args_tuple_getitem _ _)))
  show wpAny _ _ (Builtin.Tuple.tupleItemsOf (.ref t) >>= _) _ _ s
  refine wpAny_bind (tupleItemsOf_ ht ?_)
  refine wpAny_bind (wpAny_typeOf hTs ?_)
  rw [if_pos (by decide)]
  refine wpAny_bind (sliceApplied_gen hs pl pu ?_)
  have hno : ¬ ((((sIx items.size 0 lo : Nat) : Int) == 0 && (1 : Int) == 1 && (sIx items.size items.size hi - sIx items.size 0 lo) == items.size) = true) := by
    intro q
    rw [Bool.and_eq_true, Bool.and_eq_true] at q
    have q1 : ((sIx items.size 0 lo : Nat) : Int) = 0 := eq_of_beq q.1.1
    have q2 : sIx items.size items.size hi - sIx items.size 0 lo = items.size := eq_of_beq q.2
    exact hw ⟨by omega, by omega⟩
  show wpAny _ _ (if (((sIx items.size 0 lo : Nat) : Int) == 0 && (1 : Int) == 1 && (sIx items.size items.size hi - sIx items.size 0 lo) == items.size) = true then _ else _) _ _ s
  rw [if_neg hno, pick_gen]
  first
    | exact wpAny_bind (m := Builtin.Tuple.tupleExact _) (wpAny_newObj_type (wpAny_pure ⟨_, rfl, wpAny_pure h⟩) htake)
    | exact wpAny_bind (m := Builtin.Tuple.tupleExact _) (wpAny_newObj_type (wpAny_bind (wpAny_pure (wpAny_pure ⟨_, rfl, wpAny_pure h⟩))) htake)
    | exact wpAny_bind (wpAny_bind (m := Builtin.Tuple.tupleExact _) (wpAny_newObj_type (wpAny_pure (wpAny_pure ⟨_, rfl, wpAny_pure h⟩)) htake))
    | exact wpAny_bind (wpAny_bind (m := Builtin.Tuple.tupleExact _) (wpAny_newObj_type (wpAny_pure ⟨_, rfl, wpAny_pure h⟩) htake))
end
end HT
namespace L2
open PySem PySem.Spec PyProof.Rows
abbrev TO := St → Hp → (Option Int → Hp → Prop) → Prop
def PO (X : Cx) (e : Option Expr) (t : TO) : Prop :=
  ∀ (pins : List (Addr × Obj)) (s : Shared) (σ : St) (H : Hp) (Q : Option Int → Hp → Prop), Inv X pins σ H s → t σ H Q →
    wpAny (model X.prog X.w) X.A (evalPart e X.env) (fun u s' => ∃ o H', Inv X pins σ H' s' ∧ IsPart u o ∧ Q o H') X.xe s
def tNoPart : TO := fun _ H Q => Q none H
def tPart (t : TE) : TO := fun σ H Q => t σ H fun x H1 => ∃ i, x = .int i ∧ Q (some i) H1
section
variable {X : Cx} {e : Expr} {te : TE} {lo hi : Option Expr} {tl th : TO} {pos p2 : Pos}
theorem po_none : PO X none tNoPart := by
  intro pins s σ H Q I h
  rw [evalPart_none]
  exact wpAny_pure ⟨none, H, I, .none, h⟩
theorem po_some (h : PE X e te) : PO X (some e) (tPart te) := by
  intro pins s σ H Q I hw
  rw [evalPart_some]
  refine thn (h pins s σ H _ I hw) fun u s1 ⟨x, H1, I1, r1, q1⟩ => ?_
  obtain ⟨i, rfl, q⟩ := q1
  obtain ⟨t, rfl⟩ := r1
  exact ⟨some i, H1, I1, .int i t, q⟩
def SlR (X : Cx) (r : V → Option Int → Option Int → Hp → VK → Prop) : Prop :=
  ∀ (pins : List (Addr × Obj)) (s : Shared) (σ : St) (H : Hp) (x : V) (v vl vu : Value) (lo hi : Option Int) (sl : Addr) (Q : VK), Inv X pins σ H s → RelV x v → s.heap.IsSliceOf sl vl vu .none → IsPart vl lo → IsPart vu hi → r x lo hi H Q →
    ∃ T id, typeLookup (.type T) "__getitem__" = pure (some (.builtin id)) ∧ s.TypeIs v T ∧ wpAny (model X.prog X.w) X.A (getItem v (.ref sl)) (EP X pins σ Q) X.xe s
def tSl (r : V → Option Int → Option Int → Hp → VK → Prop) (te : TE) (tl th : TO) : TE := fun σ H Q => te σ H fun x H1 => tl σ H1 fun l H2 => th σ H2 fun u H3 => r x l u H3 Q
theorem pe_slice {r : V → Option Int → Option Int → Hp → VK → Prop} (hr : SlR X r) (he : PE X e te) (hl : PO X lo tl) (hu : PO X hi th) : PE X (.Subscript e (.Slice lo hi none p2) pos) (tSl r te tl th) := by
  intro pins s σ H Q I h
  refine Subscript_ (thn (he pins s σ H _ I h) fun v s1 ⟨x, H1, I1, r1, q1⟩ => ?_)
  refine wpAny_Slice (thn (hl pins s1 σ H1 _ I1 q1) fun vl s2 ⟨l, H2, I2, pl, q2⟩ => thn (hu pins s2 σ H2 _ I2 q2) fun vu s3 ⟨u, H3, I3, pu, q3⟩ => ?_)
  rw [evalPart_none]
  refine wpAny_pure ?_
  have I4 : Inv X pins σ H3 { s3 with heap := s3.heap.push { cls := .type "slice", data := .fields #[vl, vu, .none] } } := I3.kept (t' := s3.toks) fun b ob q => Heap.get?_push_of_some _ q
  obtain ⟨T, id, hT, ht, hg⟩ := hr pins { s3 with heap := s3.heap.push { cls := .type "slice", data := .fields #[vl, vu, .none] } } σ H3 x v vl vu l u s3.heap.objs.size Q I4 r1 (Heap.IsSliceOf.new ..) pl pu q3
  show wpAny (model X.prog X.w) X.A (subscriptTail e (.Slice lo hi none p2) v (.ref s3.heap.objs.size)) (EP X pins σ Q) X.xe { s3 with heap := s3.heap.push { cls := .type "slice", data := .fields #[vl, vu, .none] } }
  exact tail_any (ops := [.ref s3.heap.objs.size, v]) ht hT hg (by with_unfolding_all rfl)
def cutV (xs : List V) (lo hi : Option Int) : List V := (xs.drop (HT.sIx xs.length 0 lo)).take (HT.sIx xs.length xs.length hi - HT.sIx xs.length 0 lo)
theorem cutV_length (xs : List V) (lo hi : Option Int) : (cutV xs lo hi).length ≤ xs.length := by
  unfold cutV
  rw [List.length_take, List.length_drop]
  omega
def rSlT (K : PySem.W.Frag) : V → Option Int → Option Int → Hp → VK → Prop := fun x lo hi H Q => ∃ a xs, x = .ref a ∧ SqT K H a xs ∧
  ¬ (HT.sIx xs.length 0 lo = 0 ∧ HT.sIx xs.length xs.length hi = xs.length) ∧ ∀ p, H p = none → Q (.ref p) (upd H p (.tup (cutV xs lo hi)))
theorem sl_tup : SlR X (rSlT X.K) := by
  intro pins s σ H x v vl vu lo hi sl Q I rx hs pl pu h
  obtain ⟨a, xs, rfl, hx, hw, q⟩ := h
  cases rx
  obtain ⟨its, r, ht, hz⟩ := I.tuple hx
  have hlen : its.toArray.size = xs.length := by rw [List.size_toArray]; exact r.length.symm
  refine ⟨"tuple", _, PyProof.Rows.slot_tuple_getitem.lookup, ht.typeIs, ?_⟩
  refine HT.getItem_tuple_cut ht hs pl pu (by rw [hlen]; exact hw) ?_ (by rw [hlen]; exact hz)
  rw [hlen]
  refine ⟨.ref s.heap.objs.size, _, I.laid (t' := s.toks) (o := .tup (cutV xs lo hi)) (fun b ob q => Heap.get?_push_of_some _ q) (Nat.le_refl _) ?_, rfl, q _ (I.hok.fresh (Nat.le_refl _))⟩
  exact ⟨Nat.le_trans (cutV_length xs lo hi) hz, _, (r.drop (HT.sIx xs.length 0 lo)).take (HT.sIx xs.length xs.length hi - HT.sIx xs.length 0 lo), IsTup.new _ _⟩
def rCatT (K : PySem.W.Frag) : R2 := fun x y H Q => ∃ a b xs ys, x = .ref a ∧ y = .ref b ∧ SqT K H a xs ∧ SqT K H b ys ∧ xs ≠ [] ∧ xs.length + ys.length ≤ sizeLine ∧
  (ys = [] → Q (.ref a) H) ∧ (ys ≠ [] → ∀ p, H p = none → Q (.ref p) (upd H p (.tup (xs ++ ys))))
theorem Vals.nil_iff {xs : List V} {us : List Value} (r : Vals xs us) : us = [] ↔ xs = [] := by
  cases r with
  | nil => simp
  | cons _ _ => simp
theorem op_catT : OpR X (binaryOp .Add) (rCatT X.K) := by
  intro pins s σ H x y v u Q I rx ry h
  obtain ⟨a, b, xs, ys, rfl, rfl, ha, hb, hx, hz, q1, q2⟩ := h
  cases rx
  cases ry
  obtain ⟨its, r1, p1, _⟩ := I.tuple ha
  obtain ⟨its2, r2, p2, _⟩ := I.tuple hb
  refine HT.cat_tup p1 p2 (fun z => hx (r1.nil_iff.mp z)) (fun z => ⟨.ref a, H, I, rfl, q1 (r2.nil_iff.mp z)⟩) (fun z => ?_) (by rw [← r1.length, ← r2.length]; exact hz)
  refine ⟨.ref s.heap.objs.size, _, I.laid (t' := s.toks) (o := .tup (xs ++ ys)) (fun b ob q => Heap.get?_push_of_some _ q) (Nat.le_refl _) ?_, rfl, q2 (fun w => z (r2.nil_iff.mpr w)) _ (I.hok.fresh (Nat.le_refl _))⟩
  exact ⟨by rw [List.length_append]; exact hz, _, r1.append r2, IsTup.new _ _⟩
end
end L2
namespace L2
open PySem PySem.Spec PyProof.Rows
def ixN (n : Nat) (i : Int) : Option Nat := if 0 ≤ i then (if i < n then some i.toNat else none) else if -(n : Int) ≤ i then some (i + n).toNat else none
def atI {α : Type} (xs : List α) (i : Int) : Option α := (ixN xs.length i).bind fun j => xs[j]?
theorem ixN_seq {n : Nat} {i : Int} {j : Nat} (h : ixN n i = some j) : seqIndex? i n = some j ∧ j < n ∧ -(n : Int) ≤ i ∧ i < n := by
  unfold ixN at h
  by_cases h0 : 0 ≤ i
  · rw [if_pos h0] at h
    by_cases h1 : i < n
    · rw [if_pos h1] at h
      have e : i.toNat = j := Option.some.inj h
      exact ⟨by rw [seqIndex_of h0 h1, e], by omega, by omega, h1⟩
    · rw [if_neg h1] at h; cases h
  · rw [if_neg h0] at h
    by_cases h1 : -(n : Int) ≤ i
    · rw [if_pos h1] at h
      have e : (i + n).toNat = j := Option.some.inj h
      exact ⟨by rw [seqIndex_neg (by omega) h1, e], by omega, h1, by omega⟩
    · rw [if_neg h1] at h; cases h
theorem atI_get {α : Type} {xs : List α} {i : Int} {v : α} (h : atI xs i = some v) : ∃ j, seqIndex? i xs.length = some j ∧ xs[j]? = some v ∧ j < xs.length ∧ -(xs.length : Int) ≤ i ∧ i < xs.length := by
  unfold atI at h
  cases e : ixN xs.length i with
  | none => rw [e] at h; cases h
  | some j =>
    rw [e] at h
    obtain ⟨h1, h2, h3, h4⟩ := ixN_seq e
    exact ⟨j, h1, h, h2, h3, h4⟩
theorem atI_nat {α : Type} {xs : List α} {j : Nat} {v : α} (h : xs[j]? = some v) : atI xs (j : Int) = some v := by
  have hj : j < xs.length := (List.getElem?_eq_some_iff.mp h).1
  have e : ixN xs.length (j : Int) = some j := by
    unfold ixN
    rw [if_pos (by omega), if_pos (by omega)]; simp
  unfold atI; rw [e]; exact h
def PlainIx (b : Expr) : Prop := ∀ o i, subscripted b false o i = operate [o, i] (getItem o i)
def IxR (X : Cx) (r : R2) : Prop :=
  ∀ (value slice : Expr) (pins : List (Addr × Obj)) (s : Shared) (σ : St) (H : Hp) (x y : V) (v u : Value) (Q : VK), Inv X pins σ H s → RelV x v → RelV y u → r x y H Q →
    subscripted slice false v u = operate [v, u] (getItem v u) → wpAny (model X.prog X.w) X.A (subscriptTail value slice v u) (EP X pins σ Q) X.xe s
def MtR (X : Cx) (id : String) (r : V → List V → Hp → VK → Prop) : Prop :=
  ∀ (pins : List (Addr × Obj)) (s : Shared) (σ : St) (H : Hp) (x : V) (xs : List V) (v : Value) (us : List Value) (Q : VK), Inv X pins σ H s → RelV x v → Vals xs us → r x xs H Q →
    wpAny (model X.prog X.w) X.A (call (.builtin id) (v :: us)) (EP X pins σ Q) X.xe s
section
variable {X : Cx} {a b : Expr} {ta tb : TE} {pos : Pos}
theorem pe_ix {r : R2} (hr : IxR X r) (ha : PE X a ta) (hb : PE X b tb) (hs : PlainIx b) : PE X (.Subscript a b pos) (tOp r ta tb) := by
  intro pins s σ H Q I h
  exact Subscript_ (binT ha hb I h fun v u s2 x y H2 I2 rx ry q => hr a b pins s2 σ H2 x y v u Q I2 rx ry q (hs _ _))
def rIxL (K : PySem.W.Frag) : R2 := fun x y H Q => ∃ p xs i v, x = .ref p ∧ y = .int i ∧ SqL K H p xs ∧ atI xs i = some v ∧ Q v H
def rIxT (K : PySem.W.Frag) : R2 := fun x y H Q => ∃ p xs i v, x = .ref p ∧ y = .int i ∧ SqT K H p xs ∧ atI xs i = some v ∧ Q v H
def rIxS : R2 := fun x y H Q => ∃ z i c, x = .str z ∧ y = .int i ∧ z.length ≤ sizeLine ∧ atI z.cps.toList i = some c ∧ Q (.str ⟨#[c]⟩) H
theorem ix_list : IxR X (rIxL X.K) := by
  intro value slice pins s σ H x y v u Q I rx ry h hs
  obtain ⟨p, xs, i, z, rfl, rfl, hq, he, q⟩ := h
  cases rx
  obtain ⟨t, rfl⟩ := ry
  obtain ⟨its, r, pl, hz⟩ := I.list hq
  obtain ⟨j, h1, h2, h3, h4, h5⟩ := atI_get he
  obtain ⟨w, ew, rw'⟩ := r.get h2
  have hl := r.length
  have hn := line63
  have fin : EP X pins σ Q w s := ⟨z, H, I, rw', q⟩
  by_cases h0 : 0 ≤ i
  · have hj : i.toNat = j := by
      rw [seqIndex_of h0 h5] at h1
      exact Option.some.inj h1
    exact item_listR pl.isList h0 (by omega) (by rw [hj]; simpa using ew) fin hs
  · have hj : (i + (its.toArray.size : Int)).toNat = j := by
      rw [seqIndex_neg (by omega) h4] at h1
      rw [List.size_toArray, ← hl]
      exact Option.some.inj h1
    exact subscriptTail_builtinR (x := w) pl.isList.typeIs slot_list_getitem.lookup
      (wpAny_getItem_list_neg (Q := fun r s' => r = w ∧ EP X pins σ Q r s') pl.isList (by omega) (by rw [List.size_toArray] <;> omega) (by omega) (by rw [hj]; simpa using ew) ⟨rfl, fin⟩) hs
theorem ix_tup : IxR X (rIxT X.K) := by
  intro value slice pins s σ H x y v u Q I rx ry h hs
  obtain ⟨p, xs, i, z, rfl, rfl, hq, he, q⟩ := h
  cases rx
  obtain ⟨t, rfl⟩ := ry
  obtain ⟨its, r, pl, hz⟩ := I.tuple hq
  obtain ⟨j, h1, h2, h3, h4, h5⟩ := atI_get he
  obtain ⟨w, ew, rw'⟩ := r.get h2
  have hl := r.length
  have hn := line63
  have fin : EP X pins σ Q w s := ⟨z, H, I, rw', q⟩
  exact subscriptTail_builtinR (x := w) pl.typeIs slot_tuple_getitem.lookup
    (getItem_tuple (j := j) (Q := fun r s' => r = w ∧ EP X pins σ Q r s') pl (by omega) (by omega) (by rw [List.size_toArray, ← hl]; exact h1) (by simpa using ew) ⟨rfl, fin⟩) hs
theorem ix_str : IxR X rIxS := by
  intro value slice pins s σ H x y v u Q I rx ry h hs
  obtain ⟨z, i, c, rfl, rfl, hz, he, q⟩ := h
  obtain ⟨t, rfl⟩ := rx
  obtain ⟨t', rfl⟩ := ry
  obtain ⟨j, h1, h2, h3, h4, h5⟩ := atI_get he
  have hl : z.cps.toList.length = z.length := by simp [Str.length]
  rw [hl] at h1 h4 h5
  have hn := line63
  exact tail_any (typeIs_str s z t) slot_str_getitem.lookup (getItem_str (c := c) (by
    have e1 : decide (i < -(2 ^ 63 : Int)) = false := decide_eq_false (by omega)
    have e2 : decide (i ≥ 2 ^ 63) = false := decide_eq_false (by omega)
    rw [e1, e2, Bool.or_false]) (by rw [h1]; simpa using h2) ⟨.str ⟨#[c]⟩, H, I.tok _, ⟨_, rfl⟩, q⟩) hs
theorem slice_bounds (lo hi : Option Int) (n : Nat) : (sliceBounds lo hi none n).1 = ((HT.sIx n 0 lo : Nat) : Int) ∧ (sliceBounds lo hi none n).2.1 = ((HT.sIx n n hi : Nat) : Int) ∧ (sliceBounds lo hi none n).2.2 = 1 := by
  refine ⟨?_, ?_, rfl⟩
  · cases lo with
    | none => simp [sliceBounds, HT.sIx]
    | some i =>
      simp only [sliceBounds, HT.sIx, Option.getD_none, show (1 : Int) > 0 by decide, if_true]
      by_cases h : i < 0
      · simp only [h, if_true] <;> omega
      · simp only [h, if_false] <;> omega
  · cases hi with
    | none => simp [sliceBounds, HT.sIx]
    | some i =>
      simp only [sliceBounds, HT.sIx, Option.getD_none, show (1 : Int) > 0 by decide, if_true]
      by_cases h : i < 0
      · simp only [h, if_true] <;> omega
      · simp only [h, if_false] <;> omega
theorem slicePick_cut (its : List Value) (lo hi : Option Int) : slicePick its.toArray lo hi none = ((its.drop (HT.sIx its.length 0 lo)).take (HT.sIx its.length its.length hi - HT.sIx its.length 0 lo)).toArray := by
  obtain ⟨h1, h2, h3⟩ := slice_bounds lo hi its.toArray.size
  unfold slicePick
  rw [h1, h2, h3]
  simp only [sliceRange_one, pick_run, List.size_toArray] <;> rfl
def rSlL (K : PySem.W.Frag) : V → Option Int → Option Int → Hp → VK → Prop := fun x lo hi H Q => ∃ a xs, x = .ref a ∧ SqL K H a xs ∧ ∀ p, H p = none → Q (.ref p) (upd H p (.lst (cutV xs lo hi)))
theorem sl_list : SlR X (rSlL X.K) := by
  intro pins s σ H x v vl vu lo hi sl Q I rx hs pl pu h
  obtain ⟨a, xs, rfl, hx, q⟩ := h
  cases rx
  obtain ⟨its, r, ht, hz⟩ := I.list hx
  have hlen := r.length
  refine ⟨"list", _, slot_list_getitem.lookup, ht.isList.typeIs, ?_⟩
  refine wpAny_getItem_list_slice ht.isList hs pl pu .none (by simp) ?_ (by rw [List.size_toArray] <;> omega)
  rw [slicePick_cut, ← hlen]
  refine ⟨.ref s.heap.objs.size, _, I.laid (t' := s.toks) (o := .lst (cutV xs lo hi)) (fun b ob q => Heap.get?_push_of_some _ q) (Nat.le_refl _) ?_, rfl, q _ (I.hok.fresh (Nat.le_refl _))⟩
  exact ⟨Nat.le_trans (cutV_length xs lo hi) hz, _, 0, (r.drop (HT.sIx xs.length 0 lo)).take (HT.sIx xs.length xs.length hi - HT.sIx xs.length 0 lo), Heap.get?_push_size _ rfl⟩
def flatV : V → Bool
  | .non => true
  | .bl _ => true
  | .int _ => true
  | .str _ => true
  | _ => false
def eqV : V → V → Bool
  | .non, .non => true
  | .bl a, .bl b => a == b
  | .bl a, .int b => (if a then 1 else 0) == b
  | .int a, .bl b => a == (if b then 1 else 0)
  | .int a, .int b => a == b
  | .str a, .str b => a == b
  | _, _ => false
theorem eqAt_V {A : Around} {s : Shared} {y x : V} {u v : Value} (ry : RelV y u) (rx : RelV x v) (fy : flatV y = true) (fx : flatV x = true) : SeqAt.EqAt A s u v (eqV y x) := by
  cases y with
  | non =>
    cases ry
    cases x with
    | non => cases rx; exact SeqAt.EqAt.same _
    | bl b => cases rx; exact SeqAt.EqAt.none_bool b
    | int b => obtain ⟨t, rfl⟩ := rx; exact SeqAt.EqAt.none_int b t
    | str b => obtain ⟨t, rfl⟩ := rx; exact SeqAt.EqAt.none_str b t
    | _ => exact absurd (show false = true from fx) Bool.false_ne_true
  | bl a =>
    cases ry
    cases x with
    | non => cases rx; exact SeqAt.EqAt.bool_none a
    | bl b => cases rx; exact SeqAt.EqAt.bool_bool a b
    | int b => obtain ⟨t, rfl⟩ := rx; exact SeqAt.EqAt.bool_int a b t
    | str b => obtain ⟨t, rfl⟩ := rx; exact SeqAt.EqAt.bool_str a b t
    | _ => exact absurd (show false = true from fx) Bool.false_ne_true
  | int a =>
    obtain ⟨t', rfl⟩ := ry
    cases x with
    | non => cases rx; exact SeqAt.EqAt.int_none a t'
    | bl b => cases rx; exact SeqAt.EqAt.int_bool a t' b
    | int b => obtain ⟨t, rfl⟩ := rx; exact SeqAt.EqAt.int_int a t' b t
    | str b => obtain ⟨t, rfl⟩ := rx; exact SeqAt.EqAt.int_str a t' b t
    | _ => exact absurd (show false = true from fx) Bool.false_ne_true
  | str a =>
    obtain ⟨t', rfl⟩ := ry
    cases x with
    | non => cases rx; exact SeqAt.EqAt.str_none a t'
    | bl b => cases rx; exact SeqAt.EqAt.str_bool a t' b
    | int b => obtain ⟨t, rfl⟩ := rx; exact SeqAt.EqAt.str_int a t' b t
    | str b => obtain ⟨t, rfl⟩ := rx; exact SeqAt.EqAt.str_str a t' b t
    | _ => exact absurd (show false = true from fx) Bool.false_ne_true
  | _ => exact absurd (show false = true from fy) Bool.false_ne_true
def eqU (x : V) (u : Value) : Bool := match u with
  | .none => eqV .non x
  | .bool b => eqV (.bl b) x
  | .int i _ => eqV (.int i) x
  | .str z _ => eqV (.str z) x
  | _ => false
theorem eqU_of {x y : V} {u : Value} (r : RelV y u) (f : flatV y = true) : eqU x u = eqV y x := by
  cases y with
  | non => cases r; rfl
  | bl b => cases r; rfl
  | int i => obtain ⟨t, rfl⟩ := r; rfl
  | str z => obtain ⟨t, rfl⟩ := r; rfl
  | _ => exact absurd (show false = true from f) Bool.false_ne_true
theorem any_eqU {x : V} : ∀ {xs : List V} {us : List Value}, Vals xs us → xs.all flatV = true → us.any (eqU x) = xs.any fun y => eqV y x
  | _, _, .nil, _ => rfl
  | y :: xs, u :: us, .cons r t, f => by
    rw [List.all_cons, Bool.and_eq_true] at f
    rw [List.any_cons, List.any_cons, eqU_of r f.1, any_eqU t f.2]
theorem mem_eqAt {A : Around} {s : Shared} {x : V} {v : Value} (rx : RelV x v) (fx : flatV x = true) : ∀ {xs : List V} {us : List Value}, Vals xs us → xs.all flatV = true → ∀ u ∈ us, SeqAt.EqAt A s u v (eqU x u)
  | _, _, .nil, _ => fun u hu => by cases hu
  | y :: xs, u :: us, .cons r t, f => fun u' hu => by
    rw [List.all_cons, Bool.and_eq_true] at f
    rcases List.mem_cons.mp hu with rfl | hu
    · rw [eqU_of r f.1]; exact eqAt_V r rx f.1 fx
    · exact mem_eqAt rx fx t f.2 u' hu
def inV (x : V) (xs : List V) : Bool := xs.any fun y => eqV y x
def rIn (K : PySem.W.Frag) (neg : Bool) : R2 := fun x y H Q => ∃ p xs, y = .ref p ∧ (SqL K H p xs ∨ SqT K H p xs) ∧ flatV x = true ∧ xs.all flatV = true ∧ Q (.bl (if neg then !inV x xs else inV x xs)) H
theorem op_in_seq : OpR X (compareOp .In) (rIn X.K false) := by
  intro pins s σ H x y v u Q I rx ry h
  obtain ⟨p, xs, rfl, hq, fx, fs, q⟩ := h
  cases ry
  rcases hq with hq | hq
  · obtain ⟨its, r, pl, hz⟩ := I.list hq
    refine SeqAt.in_listAt (eqU x) pl.isList (fun w hw => mem_eqAt rx fx r fs w (by simpa using hw)) ⟨.bl _, H, I, rfl, ?_⟩
    rw [show its.toArray.any (eqU x) = its.any (eqU x) by simp, any_eqU r fs]
    exact q
  · obtain ⟨its, r, pl, hz⟩ := I.tuple hq
    refine SeqAt.in_tupleAt (eqU x) pl (fun w hw => mem_eqAt rx fx r fs w (by simpa using hw)) ⟨.bl _, H, I, rfl, ?_⟩
    rw [show its.toArray.any (eqU x) = its.any (eqU x) by simp, any_eqU r fs]
    exact q
theorem op_notIn_seq : OpR X (compareOp .NotIn) (rIn X.K true) := by
  intro pins s σ H x y v u Q I rx ry h
  obtain ⟨p, xs, rfl, hq, fx, fs, q⟩ := h
  cases ry
  rcases hq with hq | hq
  · obtain ⟨its, r, pl, hz⟩ := I.list hq
    refine SeqAt.notIn_listAt (eqU x) pl.isList (fun w hw => mem_eqAt rx fx r fs w (by simpa using hw)) ⟨.bl _, H, I, rfl, ?_⟩
    rw [show its.toArray.any (eqU x) = its.any (eqU x) by simp, any_eqU r fs]
    exact q
  · obtain ⟨its, r, pl, hz⟩ := I.tuple hq
    refine SeqAt.notIn_tupleAt (eqU x) pl (fun w hw => mem_eqAt rx fx r fs w (by simpa using hw)) ⟨.bl _, H, I, rfl, ?_⟩
    rw [show its.toArray.any (eqU x) = its.any (eqU x) by simp, any_eqU r fs]
    exact q
theorem call_len_seq : CallR X (.builtin "len") (fun xs H Q => ∃ p ys, xs = [.ref p] ∧ (SqL X.K H p ys ∨ SqT X.K H p ys) ∧ Q (.int ys.length) H) := by
  intro pins s σ H xs us Q I r h
  obtain ⟨p, ys, rfl, hq, q⟩ := h
  obtain ⟨u, rfl, rx⟩ := vals1 r
  cases rx
  have hn := line63
  rcases hq with hq | hq
  · obtain ⟨its, r', pl, hz⟩ := I.list hq
    have hlen := r'.length
    exact Calls.call_len_list pl.isList (by simp only [List.size_toArray] <;> omega) ⟨.int ys.length, H, I.tok _, ⟨s.toks + 1, by rw [List.size_toArray, hlen]⟩, q⟩
  · obtain ⟨its, r', pl, hz⟩ := I.tuple hq
    have hlen := r'.length
    exact len_tuple pl (by simp only [List.size_toArray] <;> omega) ⟨.int ys.length, H, I.tok _, ⟨s.toks + 1, by rw [List.size_toArray, hlen]⟩, q⟩
theorem call_list_of : CallR X (.type "list") (fun xs H Q => ∃ p ys, xs = [.ref p] ∧ (SqL X.K H p ys ∨ SqT X.K H p ys) ∧ ∀ l, H l = none → Q (.ref l) (upd H l (.lst ys))) := by
  intro pins s σ H xs us Q I r h
  obtain ⟨p, ys, rfl, hq, q⟩ := h
  obtain ⟨u, rfl, rx⟩ := vals1 r
  cases rx
  have fin : ∀ (its : List Value), Vals ys its → ys.length ≤ sizeLine → ∀ (h' : Heap) (c' : Nat), (∀ b o', s.heap.get? b = some o' → h'.get? b = some o') →
      h'.get? s.heap.objs.size = some { cls := .type "list", dict := none, data := .seq its.toArray c', slots := #[] } → EP X pins σ Q (.ref s.heap.objs.size) { s with heap := h' } := fun its r' hz h' c' kp e =>
    ⟨.ref s.heap.objs.size, _, I.laid (t' := s.toks) kp (Nat.le_refl _) (show ObjOk X.prog X.w _ h' _ (.lst ys) from ⟨hz, its, c', r', e⟩), rfl, q _ (I.hok.fresh (Nat.le_refl _))⟩
  rcases hq with hq | hq
  · obtain ⟨its, r', pl, hz⟩ := I.list hq
    have hlen := r'.length
    obtain ⟨o, ho, hc, n, hd⟩ := pl.isList
    exact call_list_seq p (.inl rfl) ho hc hd (fun h' c' kp e => fin its r' hz h' c' kp e) (by simp only [List.size_toArray] <;> omega)
  · obtain ⟨its, r', pl, hz⟩ := I.tuple hq
    have hlen := r'.length
    obtain ⟨o, ho, hc, n, hd⟩ := pl
    exact call_list_seq p (.inr rfl) ho hc hd (fun h' c' kp e => fin its r' hz h' c' kp e) (by simp only [List.size_toArray] <;> omega)
theorem call_tuple_of : CallR X (.type "tuple") (fun xs H Q => ∃ p ys, xs = [.ref p] ∧ ((SqL X.K H p ys ∧ ∀ l, H l = none → Q (.ref l) (upd H l (.tup ys))) ∨ (SqT X.K H p ys ∧ Q (.ref p) H))) := by
  intro pins s σ H xs us Q I r h
  obtain ⟨p, ys, rfl, h⟩ := h
  obtain ⟨u, rfl, rx⟩ := vals1 r
  cases rx
  rcases h with ⟨hq, q⟩ | ⟨hq, q⟩
  · obtain ⟨its, r', pl, hz⟩ := I.list hq
    have hlen := r'.length
    refine call_tuple_list pl.isList (fun h' kp => ?_) (by simp only [List.size_toArray] <;> omega)
    have I1 : Inv X pins σ H { s with heap := h' } := I.kept (t' := s.toks) kp
    have I2 : Inv X pins σ (upd H h'.objs.size (.tup ys)) { s with heap := h'.push { cls := .type "tuple", data := .seq its.toArray } } :=
      I1.laid (t' := s.toks) (fun b o e => Heap.get?_push_of_some _ e) (Nat.le_refl _) (show ObjOk X.prog X.w _ _ _ (.tup ys) from ⟨hz, its, r', IsTup.new _ _⟩)
    exact ⟨.ref h'.objs.size, _, I2, rfl, q _ (I1.hok.fresh (Nat.le_refl _))⟩
  · obtain ⟨its, r', pl, hz⟩ := I.tuple hq
    exact call_tuple_same pl ⟨.ref p, H, I, rfl, q⟩
def tyV (K : PySem.W.Frag) (T : String) (x : V) (H : Hp) : Prop := match x with
  | .str _ => T = "str"
  | .int _ => T = "int"
  | .ref p => (T = "list" ∧ ∃ xs, SqL K H p xs) ∨ (T = "tuple" ∧ ∃ o, K.lookup p = some o ∧ o.cls = .type "tuple" ∧ o.dict = none) ∨
      (T = "dict" ∧ ((∃ kvs, H p = some (.dK kvs)) ∨ ∃ kvs, H p = some (.dT kvs))) ∨ (T = "set" ∧ ∃ S n, H p = some (.set S n))
  | _ => False
theorem tyV_is {pins : List (Addr × Obj)} {σ : St} {H : Hp} {s : Shared} {T : String} {x : V} {v : Value} (I : Inv X pins σ H s) (r : RelV x v) (ty : tyV X.K T x H) :
    s.TypeIs v T ∧ ∀ a, v = .ref a → ∃ ob, s.heap.get? a = some ob ∧ ob.dict = none := by
  cases x with
  | str z =>
    obtain ⟨t, rfl⟩ := r
    cases (show T = "str" from ty)
    exact ⟨typeIs_str s z t, fun _ e => nomatch e⟩
  | int i =>
    obtain ⟨t, rfl⟩ := r
    cases (show T = "int" from ty)
    exact ⟨typeIs_int s i t, fun _ e => nomatch e⟩
  | ref p =>
    cases r
    rcases ty with ⟨rfl, xs, hq⟩ | ⟨rfl, o, hk, hc, hd⟩ | ⟨rfl, hk⟩ | ⟨rfl, S, n, hk⟩
    · obtain ⟨its, _, pl, _⟩ := I.list hq
      refine ⟨pl.isList.typeIs, fun a e => ?_⟩
      cases e
      obtain ⟨o, n, e, c, hd, _⟩ := pl
      exact ⟨o, e, hd⟩
    · refine ⟨⟨o, I.kIn p o hk, hc⟩, fun a e => ?_⟩
      cases e
      exact ⟨o, I.kIn _ o hk, hd⟩
    · have z : ∃ o, s.heap.get? p = some o ∧ o.ExactDict := by
        rcases hk with ⟨kvs, hk⟩ | ⟨kvs, hk⟩
        · obtain ⟨_, _, _, _, o, _, _, e, ex, _⟩ := I.hok p _ hk
          exact ⟨o, e, ex⟩
        · obtain ⟨_, _, _, _, o, _, _, e, ex, _⟩ := I.hok p _ hk
          exact ⟨o, e, ex⟩
      obtain ⟨o, e, ex⟩ := z
      refine ⟨⟨o, e, ex.1⟩, fun a e2 => ?_⟩
      cases e2
      exact ⟨o, e, ex.2.1⟩
    · obtain ⟨o, _, _, _, e, ex, _⟩ := I.hok p _ hk
      refine ⟨⟨o, e, ex.1⟩, fun a e2 => ?_⟩
      cases e2
      exact ⟨o, e, ex.2.1⟩
  | _ => exact False.elim ty
def tBM0 (K : PySem.W.Frag) (T : String) (r : V → List V → Hp → VK → Prop) (to : TE) : TE := fun σ H Q => to σ H fun x H1 => tyV K T x H1 ∧ r x [] H1 Q
def tBM (K : PySem.W.Frag) (T : String) (r : V → List V → Hp → VK → Prop) (to : TE) (t : TA) : TE := fun σ H Q => to σ H fun x H1 => tyV K T x H1 ∧ t σ H1 fun xs H2 => r x xs H2 Q
variable {o e : Expr} {es : List Expr} {to : TE} {t : TA} {name : Str} {apos cpos : Pos} {T id : String} {r : V → List V → Hp → VK → Prop}
theorem pe_bm0 (pa : PlainAttrs T) (slot : Slot T name id) (hty : typeOf (.builtin id) = pure (.type "method_descriptor")) (hm : MtR X id r) (ho : PE X o to)
    (hbase : attributeBase o name X.env (eval o X.env) = eval o X.env := by rfl) (hline : (apos.endLine == cpos.line) = true := by rfl) : PE X (.Call (.Attribute o name apos) [] [] cpos) (tBM0 X.K T r to) := by
  intro pins s σ H Q I h
  refine wpAny_Call_method0_late hbase hline (thn (ho pins s σ H _ I h) fun v s1 ⟨x, H1, I1, r1, ty, q1⟩ => ?_)
  obtain ⟨h1, h2⟩ := tyV_is I1 r1 ty
  exact ⟨T, id, pa, slot, hty, h1, h2, Calls.callWith_builtin rfl (PySem.evalArgs_none (hm pins s1 σ H1 x [] v [] Q I1 r1 .nil q1))⟩
theorem pe_bm (pa : PlainAttrs T) (slot : Slot T name id) (hty : typeOf (.builtin id) = pure (.type "method_descriptor")) (hm : MtR X id r) (ho : PE X o to) (ha : PA X (e :: es) t)
    (hbase : attributeBase o name X.env (eval o X.env) = eval o X.env := by rfl)
    (hfew : ((backTo cpos (starEach (e :: es) X.env)).all (fun x => !x.1) && (backToKw cpos (keywordEach [] X.env)).all (fun x => x.1.isSome)
      && decide ((e :: es).length + ([] : List Keyword).length + (if ([] : List Keyword).isEmpty then 0 else 1) < 30)) = true := by rfl)
    (hline : (apos.endLine == cpos.line) = true := by rfl) (hs : starEach (e :: es) X.env = (false, eval e X.env) :: starEach es X.env := by rfl) (hplain : (backTo cpos (starEach es X.env)).any (·.1) = false := by rfl) :
    PE X (.Call (.Attribute o name apos) (e :: es) [] cpos) (tBM X.K T r to t) := by
  intro pins s σ H Q I h
  refine wpAny_Call_method_late hbase hfew hline rfl (thn (ho pins s σ H _ I h) fun v s1 ⟨x, H1, I1, r1, ty, q1⟩ => ?_)
  obtain ⟨h1, h2⟩ := tyV_is I1 r1 ty
  refine ⟨T, id, pa, slot, hty, h1, h2, ?_⟩
  have hA := ha cpos pins s1 σ H1 _ I1 q1
  rw [hs] at hA ⊢
  refine Calls.callWith_builtin (by show (false || (backTo cpos (starEach es X.env)).any (·.1)) = false; rw [hplain] <;> rfl) (Calls.evalArgs_plain ?_)
  exact thn hA fun us s2 ⟨vs, H2, I2, r2, q2⟩ => hm pins s2 σ H2 x vs v us Q I2 r1 r2 q2
end
end L2
namespace L2
open PySem PySem.Spec PyProof.Rows
def MtM (X : Cx) (id : String) (r : V → List V → Hp → VK → Prop) : Prop :=
  ∀ (pins : List (Addr × Obj)) (s : Shared) (σ : St) (H : Hp) (x : V) (xs : List V) (v : Value) (us : List Value) (Q : VK), Inv X pins σ H s → RelV x v → Vals xs us → r x xs H Q →
    wpAny (model X.prog X.w) X.A (call (.builtin id) (v :: us)) (EP X pins σ Q) X.xe s
theorem Vals.one : ∀ {x : V} {us : List Value}, Vals [x] us → ∃ u, us = [u] ∧ RelV x u
  | _, _, .cons r .nil => ⟨_, rfl, r⟩
theorem Vals.zero : ∀ {us : List Value}, Vals [] us → us = []
  | _, .nil => rfl
theorem Vals.dropLast {xs : List V} {us : List Value} (h : Vals xs us) : Vals xs.dropLast us.dropLast := by
  induction h with
  | nil => exact .nil
  | cons r t ih =>
    cases t with
    | nil => exact .nil
    | cons q t' => exact .cons r ih
theorem Vals.eraseIdx : ∀ {xs : List V} {us : List Value} (i : Nat), Vals xs us → Vals (xs.eraseIdx i) (us.eraseIdx i)
  | _, _, _, .nil => .nil
  | _, _, 0, .cons _ t => t
  | _, _, i + 1, .cons r t => .cons r (Vals.eraseIdx i t)
theorem erase_last {α : Type} (l : List α) : l.eraseIdx (l.length - 1) = l.dropLast := by
  induction l with
  | nil => rfl
  | cons a r ih =>
    cases r with
    | nil => rfl
    | cons b r =>
      have e : (a :: b :: r).length - 1 = ((b :: r).length - 1) + 1 := by
        have h1 : (a :: b :: r).length = r.length + 2 := rfl
        have h2 : (b :: r).length = r.length + 1 := rfl
        omega
      rw [e, List.eraseIdx_cons_succ, ih]
      all_goals rfl
theorem len_erase {α : Type} : ∀ (l : List α) (i : Nat), (l.eraseIdx i).length ≤ l.length
  | [], _ => Nat.le_refl _
  | _ :: _, 0 => Nat.le_succ _
  | _ :: r, i + 1 => Nat.succ_le_succ (len_erase r i)
section
variable {X : Cx} {pins : List (Addr × Obj)} {σ : St} {H : Hp} {s : Shared} {l b : Addr} {xs ys zs : List V}
theorem Inv.lset {its its' : List Value} {n : Nat} {f : Array Value → Array Value} {t' : Nat} (I : Inv X pins σ H s) (hH : H l = some (.lst xs))
    (e : s.heap.get? l = some { cls := .type "list", data := .seq its.toArray n }) (hf : f its.toArray = its'.toArray) (hv : Vals ys its') (hz : ys.length ≤ sizeLine) :
    Inv X pins σ (upd H l (.lst ys)) { s with heap := s.heap.update l (Obj.mapSeq f), toks := t' } := by
  have q := PySem.IsL.update e f
  rw [hf] at q
  refine I.write (x := l) (e := l) (by rw [hH]; exact trivial) (.inl rfl) (fun b' u hb hu => (Heap.get?_update_other s.heap (Obj.mapSeq f) (Ne.symm hb)).trans hu) ⟨_, q⟩ ?_
  exact ⟨hz, its', _, hv, q⟩
theorem Inv.lnew {its : List Value} {t' : Nat} (I : Inv X pins σ H s) (hv : Vals ys its) (hz : ys.length ≤ sizeLine) :
    Inv X pins σ (upd H s.heap.objs.size (.lst ys)) { s with heap := s.heap.push { cls := .type "list", data := .seq its.toArray }, toks := t' } :=
  I.laid (fun _ _ q => Heap.get?_push_of_some _ q) (Nat.le_refl _) ⟨hz, its, 0, hv, Heap.get?_push_size _ rfl⟩
theorem Inv.fresh (I : Inv X pins σ H s) : H s.heap.objs.size = none := I.hok.fresh (Nat.le_refl _)
theorem Inv.lstM (I : Inv X pins σ H s) (hH : H l = some (.lst xs)) : xs.length ≤ sizeLine ∧ ∃ (its : List Value) (n : Nat), Vals xs its ∧ xs.length = its.length ∧ s.heap.get? l = some { cls := .type "list", data := .seq its.toArray n } := by
  obtain ⟨z, its, n, r, e⟩ := I.hok l _ hH
  exact ⟨z, its, n, r, r.length, e⟩
theorem notLongL {n : Nat} (h : n ≤ sizeLine) : Builtin.List.listTooLong n = false := by
  unfold Builtin.List.listTooLong
  exact decide_eq_false (by omega)
end
section
variable {X : Cx}
def rAppend : V → List V → Hp → VK → Prop := fun x vs H Q => ∃ l xs y, x = .ref l ∧ vs = [y] ∧ H l = some (.lst xs) ∧ xs.length < sizeLine ∧ Q .non (upd H l (.lst (xs ++ [y])))
theorem mt_append : MtM X "list.append" rAppend := by
  intro pins s σ H x vs v us Q I rx rv h
  obtain ⟨l, xs, y, rfl, rfl, hH, hz, q⟩ := h
  cases rx
  obtain ⟨u, rfl, ru⟩ := rv.one
  obtain ⟨z, its, n, r, hl, e⟩ := I.lstM hH
  refine call_meets F.slot_list_append ⟨_, e, rfl⟩ F.entry_list_append (F.args_list_append_2 _ _) (PySem.list_append l its.toArray n u (by rw [List.size_toArray]; omega)) ⟨e, ?_⟩
  refine ⟨.non, _, I.lset (its' := its ++ [u]) hH e (by simp) (r.append (.cons ru .nil)) ?_, rfl, q⟩
  rw [List.length_append, List.length_singleton]
  omega
def rPop : V → List V → Hp → VK → Prop := fun x vs H Q => ∃ l xs y, x = .ref l ∧ vs = [] ∧ H l = some (.lst xs) ∧ xs[xs.length - 1]? = some y ∧ Q y (upd H l (.lst xs.dropLast))
theorem mt_pop : MtM X "list.pop" rPop := by
  intro pins s σ H x vs v us Q I rx rv h
  obtain ⟨l, xs, y, rfl, rfl, hH, hy, q⟩ := h
  cases rx
  have hus := rv.zero
  subst hus
  obtain ⟨z, its, n, r, hl, e⟩ := I.lstM hH
  obtain ⟨u, hu, ru⟩ := r.get hy
  have hy' : its.toArray[its.toArray.size - 1]? = some u := by
    show its.toArray[its.length - 1]? = some u
    rw [← Array.getElem?_toList, ← hl]
    exact hu
  refine call_meets F.slot_list_pop ⟨_, e, rfl⟩ F.entry_list_pop (F.args_list_pop_1 _) (MeetsSeq.list_pop_last l its.toArray n u hy' (by rw [List.size_toArray]; omega)) ⟨e, ?_⟩
  refine ⟨y, _, I.lset (its' := its.dropLast) hH e ?_ r.dropLast ?_, ru, q⟩
  · show its.toArray.eraseIdxIfInBounds (its.toArray.size - 1) = its.dropLast.toArray
    rw [List.size_toArray, List.eraseIdxIfInBounds_toArray, erase_last]
  · rw [List.length_dropLast]
    omega
def rPopAt : V → List V → Hp → VK → Prop := fun x vs H Q => ∃ l xs i k y, x = .ref l ∧ vs = [.int i] ∧ H l = some (.lst xs) ∧ -(2 ^ 63) ≤ i ∧ i < 2 ^ 63 ∧ seqIndex? i xs.length = some k ∧ xs[k]? = some y ∧ Q y (upd H l (.lst (xs.eraseIdx k)))
theorem mt_popAt : MtM X "list.pop" rPopAt := by
  intro pins s σ H x vs v us Q I rx rv h
  obtain ⟨l, xs, i, k, y, rfl, rfl, hH, h1, h2, hk, hy, q⟩ := h
  cases rx
  obtain ⟨u, rfl, ru⟩ := rv.one
  obtain ⟨t, rfl⟩ := ru
  obtain ⟨z, its, n, r, hl, e⟩ := I.lstM hH
  obtain ⟨w, hw, rw'⟩ := r.get hy
  refine call_meets F.slot_list_pop ⟨_, e, rfl⟩ F.entry_list_pop (F.args_list_pop_2 _ _)
    (MeetsSeq.list_pop_at l its.toArray n i t k w (fitsIndex_both h1 h2) (by rw [List.size_toArray, ← hl]; exact hk) (by rw [← Array.getElem?_toList]; exact hw) (by rw [List.size_toArray]; omega)) ⟨e, ?_⟩
  refine ⟨y, _, I.lset (its' := its.eraseIdx k) hH e ?_ (r.eraseIdx k) ?_, rw', q⟩
  · show its.toArray.eraseIdxIfInBounds k = (its.eraseIdx k).toArray
    rw [List.eraseIdxIfInBounds_toArray]
  · have := len_erase xs k
    omega
def rCat : R2 := fun x y H Q => ∃ l b xs zs, x = .ref l ∧ y = .ref b ∧ H l = some (.lst xs) ∧ H b = some (.lst zs) ∧ xs.length + zs.length ≤ sizeLine ∧ ∀ p, H p = none → Q (.ref p) (upd H p (.lst (xs ++ zs)))
theorem op_cat : OpR X (binaryOp .Add) rCat := by
  intro pins s σ H x y v u Q I rx ry h
  obtain ⟨l, b, xs, zs, rfl, rfl, hH, hB, hz, q⟩ := h
  cases rx
  cases ry
  obtain ⟨z, its, n, r, hl, e⟩ := I.lstM hH
  obtain ⟨z2, its2, n2, r2, hl2, e2⟩ := I.lstM hB
  refine PySem.P.add_list e e2 ?_ (by rw [List.size_toArray, List.size_toArray]; omega)
  have ea : its.toArray ++ its2.toArray = (its ++ its2).toArray := by simp
  rw [ea]
  exact ⟨.ref _, _, I.lnew (t' := s.toks) (r.append r2) (by rw [List.length_append]; omega), rfl, q _ I.fresh⟩
end
section
variable {prog : Program} {w : World} {A : Around} {E : Value → Shared → Prop} {s : Shared}
end
section
variable {X : Cx}
end
end L2
namespace Att
open PySem PySem.W PySem.Calls PyProof.Rows
theorem ints_of_wellAll {P : Params} {h : Heap} : ∀ (ns : List Int) (vs : List Value), WellAll P h vs (ns.map WData.int) → IntsAre vs ns := by
  intro ns
  induction ns with
  | nil =>
    intro vs w
    rw [List.map_nil] at w
    cases w
    exact .nil
  | cons n ns ih =>
    intro vs w
    rw [List.map_cons] at w
    cases w with
    | cons a b =>
      cases a
      exact .cons _ _ (ih _ b)
theorem script_of {l : OpenLaw} {n : Nat} (hn : l.most = some n) {P : Params} {h : Heap} {args : List WData} {vals : List Value}
    (hpre : l.row.toRowW.claim.pre args = true) (hwl : WellAll P h vals args) :
    ∃ a vs ns, vals = [Value.ref a] ∧ args = [WData.list (ns.map WData.int)] ∧ h.get? a = some { cls := .type "list", data := .seq vs.toArray } ∧ IntsAre vs ns ∧ ns.length ≤ n := by
  have hsh : WShape.hasAll [] args [.list .int] = true := (pre_splitW hpre).1
  have hc : l.pre.holds [] { args := args } = true := (pre_splitW hpre).2
  obtain ⟨d, r, rfl, h1, h2⟩ := hasAllW_cons hsh
  obtain rfl := hasAllW_nil h2
  obtain ⟨xs, rfl, h3⟩ := hasW_list h1
  obtain ⟨ns, rfl⟩ := items_int h3
  have hlen : ns.length ≤ n := by
    unfold OpenLaw.pre at hc
    have h4 : (WTm.not (.lt (.lit (.int (n : Int))) (.len (.arg 0)))).holds [] { args := [.list (ns.map .int)] } = true := by
      have h4 := (holds_andW hc).1
      rw [hn] at h4
      exact h4
    have h5 := condW_of h4 (w_not (w_lt w_lit (w_len_list (w_arg rfl))))
    rw [List.length_map] at h5
    refine Nat.le_of_not_lt fun q => ?_
    have q' : (n : Int) < ((ns.length : Nat) : Int) := by omega
    first
      | (rw [decide_eq_true q'] at h5; exact absurd h5 (by decide))
      | (simp at h5; omega)
  cases hwl with
  | cons w1 w2 =>
    cases w2
    cases w1 with
    | list ho hall => exact ⟨_, _, ns, rfl, rfl, ho, ints_of_wellAll ns _ hall, hlen⟩
theorem post_true (l : OpenLaw) (args : List WData) : l.row.toRowW.claim.post args (.bool true) args = true :=
  postW_of (r := l.row.toRowW) (X := (true == true))
    (show WShape.has [] (.bool true) .bool = true by first | rfl | decide | simp [WShape.has, WShape.arms, WShape.armsAll])
    (show (WTm.eq .res (.lit (.bool true))).value [] { args := args, res := some (.bool true), after := args } = some (.bool (true == true)) from w_eq_bool (w_res rfl) w_lit) rfl
theorem attach_call {l : OpenLaw} {n : Nat} {q : Program} {loose : List Str} {XP : (Str → Option Value) → Heap → Prop} {YP : World → Heap → Prop} {d : DefRec}
    (hn : l.most = some n) (hdf : d.params.defaults = [])
    (call : ∀ (w : World) (s₀ s₁ : Shared) (mg mb : Str → Option Value) (fa : Addr) (o : Obj) (pm cd doc : Value) (a : Addr) (vs : List Value) (ns : List Int),
      Ground q loose [] XP w s₀ mg mb s₁.heap → YP w s₁.heap →
      s₁.heap.get? fa = some o → o.data = .func (docDef d.name d.params d.body d.scope pm cd doc) → s₁.heap.CodeRec cd d.name → mg d.name = some (.ref fa) →
      s₁.heap.get? a = some { cls := .type "list", data := .seq vs.toArray } → IntsAre vs ns → ns.length ≤ n → s₁.gens = #[] →
      codeAny (model l.prog w) callerA (.call (.ref fa) ⟨[.ref a], []⟩) (fun r s' => r = .ok (.ret (.bool true)) ∧ OldK s₁.heap s'.heap ∧ s'.os = s₁.os ∧ AllBare s'.gens) s₁) :
    WalkO q loose XP YP l.row.toRowW d [] (fun f vs => PySem.call f vs) := by
  intro w s₀ s₁ mg mb G Y fa o pm cd doc dV kV ho hd hcd hD hmg hg args vals as hpre hlay hrd hwl hlo
  obtain rfl : dV = .none := Dflts.none hD hdf
  obtain rfl : kV = .none := Dflts.noKw hD
  obtain ⟨a, vs, ns, rfl, rfl, hobj, hints, hlen⟩ := script_of hn hpre hwl
  refine enter_call (codeAny_mono (call w s₀ s₁ mg mb fa o pm cd doc a vs ns G Y ho (fd_plain hd) hcd hmg hobj hints hlen hg) fun r s' hq => ?_)
  obtain ⟨rfl, h2, h3, h4⟩ := hq
  exact ⟨.inl ⟨.bool true, .bool true, [], rfl, fun _ => rfl, .bool true, post_true l _, fun _ => ⟨List.Pairwise.nil, fun _ hm => (nomatch hm)⟩⟩, h2, h3, h4⟩
section
variable {prog : Program} {w : World} {A : Around} {E : Value → Shared → Prop} {s : Shared} {K : Frag}
end
end Att
namespace L2
open PySem PySem.Spec PyProof.Rows
theorem vals_ints : ∀ {vs : List Value} {ns : List Int}, IntsAre vs ns → Vals (ns.map V.int) vs
  | _, _, .nil => .nil
  | _, _, .cons n t h => .cons ⟨t, rfl⟩ (vals_ints h)
def Only (H : Hp) : Prop := ∀ b, H b = none ∨ ∃ o xs, H b = some (.frz o (.lst xs))
theorem law_call {P : Program} {w : World} {K : PySem.W.Frag} {mg mb : Str → Option Value} {CX : CXT} {k : Nat} {fa a : Addr} {fd : FuncData} {x : Str} {sp : Sp} {s₁ : Shared} {vs : List Value} {ns : List Int}
    (KX : K.In s₁.heap) (hns : s₁.heap.Ns mainGlobals mg) (hb : s₁.heap.Ns builtinsNs mb) (hbb : ∀ x : Str, x ≠ "__name__" → mb x = bootBuiltins x) (hlim : s₁.heap.NoLimit) (hg : s₁.gens = #[])
    (ha : s₁.heap.get? a = some { cls := .type "list", data := .seq vs.toArray }) (hi : IntsAre vs ns) (hl : ns.length ≤ sizeLine) (hr : Room k callerA)
    (F : ∀ base : Heap, K.In base → base.Ns mainGlobals mg → FnOk P w K mg base CX k fa fd [x] sp) (hbind : ∀ (s : Shared) (u : Value), BindsTo s fd ⟨[u], []⟩ [(x, u)])
    (hsp : ∀ H : Hp, Only H → SqL K H a (ns.map V.int) → sp [.ref a] H (fun v _ => v = .bl true) fun _ _ _ => False)
    (hCX : ∀ H e s', CX [] H s₁ (fun _ _ _ => False) e s' → False) :
    codeAny (model P w) callerA (.call (.ref fa) ⟨[.ref a], []⟩) (fun r s' => r = .ok (.ret (.bool true)) ∧ OldK s₁.heap s'.heap ∧ s'.os = s₁.os ∧ AllBare s'.gens) s₁ := by
  have rv := vals_ints hi
  have lenV := hi.length
  -- from an abstract heap in which nothing but the script may be tracked
  have core : ∀ H : Hp, Only H → SqL K H a (ns.map V.int) → HOk P w H s₁.heap → (∀ b, H b ≠ none → b = a) → (H a ≠ none → K.lookup a = none) →
      codeAny (model P w) callerA (.call (.ref fa) ⟨[.ref a], []⟩) (fun r s' => r = .ok (.ret (.bool true)) ∧ OldK s₁.heap s'.heap ∧ s'.os = s₁.os ∧ AllBare s'.gens) s₁ := by
    intro H hO hS hok hA hK
    have base_of : ∀ {b : Addr} {o : Obj}, s₁.heap.get? b = some o → H b = none → (hidT s₁.heap H).get? b = some o := fun e n => hidT_get e n
    have noA : ∀ {b : Addr} {o : Obj} {es : Array DictEntry} {ep : Nat}, s₁.heap.get? b = some o → o.data = .dict es ep → H b = none := fun {b o es ep} e d => by
      cases q : H b with
      | none => rfl
      | some u =>
        have e' : b = a := hA b (by rw [q]; simp)
        subst e'
        rw [ha] at e; cases e
        have d' : Data.seq vs.toArray _ = Data.dict es ep := d
        cases d'
    have nsK : ∀ {b : Addr} {m : Str → Option Value}, s₁.heap.Ns b m → (hidT s₁.heap H).Ns b m := fun {b m} ⟨o, es, ep, e, d, r⟩ => ⟨o, es, ep, base_of e (noA e d), d, r⟩
    have hKb : K.In (hidT s₁.heap H) := fun b o e => base_of (KX b o e) (by
      cases q : H b with
      | none => rfl
      | some u =>
        have e' : b = a := hA b (by rw [q]; simp)
        subst e'
        rw [hK (by rw [q]; simp)] at e; cases e)
    have hM : Mod K mg (hidT s₁.heap H) := ⟨hKb, nsK hns, ⟨mb, nsK hb, hbb⟩, let ⟨mc, h1, h2⟩ := hlim; ⟨mc, nsK h1, h2⟩⟩
    have e0 : Env0 P w K mg (hidT s₁.heap H) callerA [] s₁ H := ⟨rfl, hM, fun b o e => of_hidT e, Nat.le_of_eq (hidT_size _ _), trivial, fun b hb => absurd (show b ∈ ([] : List Addr) from hb) (by simp), hok, .of_eq hg⟩
    refine codeAny_mono ((F _ hKb (nsK hns)).run callerA [] s₁ H ⟨[.ref a], []⟩ [.ref a] [.ref a] _ _ hr e0 (hbind s₁ (.ref a)) (.cons rfl .nil) (hsp H hO hS)) fun r s' h => ?_
    cases r with
    | error e => exact (hCX H e s' h).elim
    | ok fl =>
      cases fl with
      | next => exact False.elim h
      | brk => exact False.elim h
      | cont => exact False.elim h
      | ret u =>
        obtain ⟨v, H', os, bare, un, hok', r', q⟩ := h
        have q' : v = .bl true := q
        subst q'
        obtain rfl : u = Value.bool true := r'
        refine ⟨rfl, OldK.of_keep fun b o e => ?_, os, bare⟩
        cases q : H b with
        | none => exact un.keep b o e q (by intro z; exact absurd (show b ∈ ([] : List Addr) from z) (by simp)) (by simp)
        | some u =>
          rcases hO b with z | ⟨ob, xs, z⟩
          · rw [q] at z; cases z
          · have z2 := un.frzs b ob _ z
            obtain ⟨e1, _⟩ := hok b _ z
            obtain ⟨e2, _⟩ := hok' b _ z2
            rw [e] at e1; cases e1
            exact e2
  cases hk : K.lookup a with
  | some o =>
    -- the script is one of the module's own objects
    have e := KX a o hk
    rw [ha] at e
    cases e
    refine core (fun _ => none) (fun _ => .inl rfl) (.inr ⟨_, vs.toArray, _, hk, rfl, rfl, rfl, by rw [List.size_toArray, lenV]; exact hl, by simpa using rv⟩) (fun b u z => by have z' : (none : Option HO) = some u := z; cases z') (fun b z => absurd rfl z) fun z => absurd rfl z
  | none =>
    refine core (fun b => if b = a then some (.frz { cls := .type "list", data := .seq vs.toArray } (.lst (ns.map V.int))) else none) (fun b => ?_) (.inl (.inr ⟨{ cls := .type "list", data := .seq vs.toArray }, if_pos rfl⟩)) (fun b u z => ?_) (fun b z => ?_) fun _ => hk
    · by_cases hb : b = a
      · exact .inr ⟨_, _, if_pos hb⟩
      · exact .inl (if_neg hb)
    · by_cases hb : b = a
      · have z' := (if_pos hb).symm.trans z
        cases z'
        subst hb
        exact ⟨ha, by rw [List.length_map]; exact hl, vs, _, rv, ha⟩
      · have z' := (if_neg hb).symm.trans z
        cases z'
    · by_cases hb : b = a
      · exact hb
      · exact absurd (if_neg hb) z
end L2
namespace L2
open PySem PySem.Spec PyProof.Rows
theorem walk_of {l : PySem.W.OpenLaw} {n k : Nat} {q : Program} {loose : List Str} {XP : (Str → Option Value) → Heap → Prop} {YP : World → Heap → Prop} {d : DefRec} {K : Params → PySem.W.Frag} {CX : World → CXT} {sp : World → Sp} {x : Str}
    (hn : l.most = some n) (hn2 : n ≤ sizeLine) (hdf : d.params.defaults = []) (hr : Room k callerA)
    (hY : ∀ (w : World) (h : Heap), YP w h → (K w.params).In h)
    (F : ∀ (w : World) (mg : Str → Option Value) (fa : Addr) (h : Heap), (K w.params).In h → h.Ns mainGlobals mg → mg d.name = some (.ref fa) →
      ∃ fd : FuncData, (∀ (s : Shared) (u : Value), BindsTo s fd ⟨[u], []⟩ [(x, u)]) ∧
        ∀ base : Heap, (K w.params).In base → base.Ns mainGlobals mg → FnOk l.prog w (K w.params) mg base (CX w) k fa fd [x] (sp w))
    (hsp : ∀ (w : World) (H : Hp) (a : Addr) (ns : List Int), ns.length ≤ n → Only H → SqL (K w.params) H a (ns.map V.int) → sp w [.ref a] H (fun v _ => v = .bl true) fun _ _ _ => False)
    (hCX : ∀ (w : World) (H : Hp) (s : Shared) (e : Value) (s' : Shared), CX w [] H s (fun _ _ _ => False) e s' → False) :
    PySem.W.WalkO q loose XP YP l.row.toRowW d [] (fun f vs => PySem.call f vs) := by
  refine Att.attach_call hn hdf fun w s₀ s₁ mg mb fa o pm cd doc a vs ns G Y ho hd hcd hmg hobj hints hlen hg => ?_
  have KX := hY w _ Y
  obtain ⟨fd, hb, hF⟩ := F w mg fa _ KX G.T.g hmg
  exact law_call KX G.T.g G.T.b G.T.builtins G.T.nolimit hg hobj hints (Nat.le_trans hlen hn2) hr hF hb (fun H hO hS => hsp w H a ns hlen hO hS) fun H e s' => hCX w H s₁ e s'
theorem walk_ofK {l : PySem.W.OpenLaw} {n k : Nat} {q : Program} {loose : List Str} {XP : (Str → Option Value) → Heap → Prop} {YP : World → Heap → Prop} {d : DefRec} {K : Params → PySem.W.Frag} {CX : CXT} {sp : PySem.W.Frag → Sp} {x : Str}
    (hn : l.most = some n) (hn2 : n ≤ sizeLine) (hdf : d.params.defaults = []) (hr : Room k callerA)
    (hY : ∀ (w : World) (h : Heap), YP w h → (K w.params).In h)
    (F : ∀ (w : World) (mg : Str → Option Value) (fa : Addr) (h : Heap), (K w.params).In h → h.Ns mainGlobals mg → mg d.name = some (.ref fa) →
      ∃ fd : FuncData, (∀ (s : Shared) (u : Value), BindsTo s fd ⟨[u], []⟩ [(x, u)]) ∧
        ∀ base : Heap, (K w.params).In base → base.Ns mainGlobals mg → FnOk l.prog w (K w.params) mg base CX k fa fd [x] (sp (K w.params)))
    (hsp : ∀ (K : PySem.W.Frag) (H : Hp) (a : Addr) (ns : List Int), ns.length ≤ n → Only H → SqL K H a (ns.map V.int) → sp K [.ref a] H (fun v _ => v = .bl true) fun _ _ _ => False)
    (hCX : ∀ (H : Hp) (s : Shared) (e : Value) (s' : Shared), CX [] H s (fun _ _ _ => False) e s' → False) :
    PySem.W.WalkO q loose XP YP l.row.toRowW d [] (fun f vs => PySem.call f vs) :=
  walk_of (K := K) (CX := fun _ => CX) (sp := fun w => sp (K w.params)) hn hn2 hdf hr hY F (fun w H a ns h1 h2 h3 => hsp (K w.params) H a ns h1 h2 h3) fun _ H s e s' => hCX H s e s'
end L2
namespace L2
open PySem PySem.Spec PyProof.Rows
def defArgs (s : Stmt) : Arguments := match s with
  | .FunctionDef _ a _ _ _ _ _ _ _ _ => a
  | _ => { posonlyargs := [], args := [], vararg := none, kwonlyargs := [], kw_defaults := [], kwarg := none, defaults := [] }
def defBody (s : Stmt) : List Stmt := match s with
  | .FunctionDef _ _ b _ _ _ _ _ _ _ => b
  | _ => []
def defScope (s : Stmt) : Scope := match s with
  | .FunctionDef _ _ _ _ _ _ sc _ _ _ => sc
  | _ => { kind := .function, names := [], isGenerator := false, isCoroutine := false }
abbrev CX0 : CXT := fun _ _ _ _ _ _ => False
abbrev E0 : XK := fun _ _ _ => False
theorem pass0 {X : Cx} : Passes CX0 X E0 := fun _ _ _ _ _ _ _ h => h.elim
structure Fun (K : PySem.W.Frag) (x qual : Str) (st : Stmt) (f : Addr) (fd : FuncData) : Prop where
  ex : ∃ (oc : Value) (od : Option Addr) (kV doc pm : Value) (an : Option Addr) (cdv ct : Value) (osl : Array (Option Value)),
    fd = PySem.W.fnOf x qual (defArgs st) (defBody st) (defScope st) .none kV doc pm an cdv ct ∧ K.lookup f = some ⟨oc, od, .func fd, osl⟩ ∧ PySem.W.codeIn K cdv qual = true
  kp : PySem.W.keepIn K (.ref f) = true
section
variable {P : Program} {w : World} {K : PySem.W.Frag} {mg : Str → Option Value} {base : Heap}
theorem Fun.ok {x qual : Str} {st : Stmt} {f : Addr} {fd : FuncData} {N ps : List Str} {k : Nat} {sp : Sp} (F : Fun K x qual st f fd) (S : FnScope N ps (defScope st)) (len : ∀ vs H Q E, sp vs H Q E → vs.length = ps.length)
    (hbody : ∀ (cdv : Value) (A : Around) (outer : List Env) (s : Shared) (H : Hp) (vs : List V) (Q : VK) (E : XK), Room k (A.deeper (envOfC qual (defScope st) s.heap.objs.size f cdv)) → sp vs H Q E →
      ∃ t, PSs (cxOf CX0 P w K mg base N qual (defScope st) f cdv A outer s H E).nox (defBody st) t ∧ t { nx := fun _ H' => Q .non H', rt := Q } (start N vs) H) : FnOk P w K mg base CX0 (k + 1) f fd ps sp := by
  obtain ⟨oc, od, kV, doc, pm, an, cdv, ct, osl, rfl, lk, hcd⟩ := F.ex
  refine fn_of lk hcd S len fun A outer s H vs Q E hr hsp => ?_
  obtain ⟨t, h, q⟩ := hbody cdv A outer s H vs Q E hr hsp
  exact ⟨t, h.nox, q⟩
theorem Fun.binds {x qual : Str} {st : Stmt} {f : Addr} {fd : FuncData} {ps : List Str} (F : Fun K x qual st f fd)
    (h : ∀ (kV doc pm : Value) (an : Option Addr) (cdv ct : Value) (us : List Value), us.length = ps.length → bindArgs (PySem.W.fnOf x qual (defArgs st) (defBody st) (defScope st) .none kV doc pm an cdv ct) ⟨us, []⟩ = pure (ps.zip us)) : Binds K fd ps [] := by
  obtain ⟨oc, od, kV, doc, pm, an, cdv, ct, osl, rfl, lk, hcd⟩ := F.ex
  exact .all (h kV doc pm an cdv ct)
theorem fun_mk {x qual : Str} {st : Stmt} {f : Addr} {oc : Value} {od an : Option Addr} {osl : Array (Option Value)} {kV doc pm cdv ct : Value} (l : K.lookup f = some ⟨oc, od, .func (PySem.W.fnOf x qual (defArgs st) (defBody st) (defScope st) .none kV doc pm an cdv ct), osl⟩)
    (c : PySem.W.codeIn K cdv qual = true) (k : PySem.W.keepIn K (.ref f) = true) : Fun K x qual st f (PySem.W.fnOf x qual (defArgs st) (defBody st) (defScope st) .none kV doc pm an cdv ct) := ⟨⟨oc, od, kV, doc, pm, an, cdv, ct, osl, rfl, l, c⟩, k⟩
end
section
variable {X : Cx}
theorem pv (i : Nat) {x : Str} {pos : Pos} (hN : X.N[i]? = some x := by rfl) (hv : Vis X.env.scope x := by first | exact Or.inl rfl | exact Or.inr (Or.inl rfl) | exact Or.inr (Or.inr rfl)) (hd : (x == ("__debug__" : Str)) = false := by decide)
    (hcd : (x == ("__classdict__" : Str)) = false := by decide) : PE X (.Name x pos) (tVar i) := pe_var hN hv hd hcd
end
theorem iteF {A B : Prop} (h : B) : if false = true then A else B := by
  rw [if_neg Bool.false_ne_true]
  exact h
theorem iteT {A B : Prop} (h : A) : if true = true then A else B := by
  rw [if_pos rfl]
  exact h
theorem ite2 {c A B : Prop} [Decidable c] (h1 : c → A) (h2 : ¬ c → B) : if c then A else B := by
  by_cases h : c
  · rw [if_pos h]
    exact h1 h
  · rw [if_neg h]
    exact h2 h
def Same (H H' : Hp) : Prop := ∀ b o, H b = some o → H' b = some o
theorem Same.refl (H : Hp) : Same H H := fun _ _ h => h
theorem Same.trans {H H1 H2 : Hp} (a : Same H H1) (b : Same H1 H2) : Same H H2 := fun c o h => b c o (a c o h)
theorem Same.free {H H' : Hp} (e : Same H H') {l : Addr} (h : H' l = Option.none) : H l = Option.none := by
  cases q : H l with
  | none => rfl
  | some o =>
    rw [e l o q] at h
    cases h
theorem Same.seq {K : PySem.W.Frag} {H H' : Hp} {a : Addr} {xs : List V} (e : Same H H') (h : SqL K H a xs) : SqL K H' a xs := by
  rcases h with (h | ⟨o, h⟩) | h
  · exact .inl (.inl (e _ _ h))
  · exact .inl (.inr ⟨o, e _ _ h⟩)
  · exact .inr h
end L2
set_option Elab.async false
set_option linter.all false
set_option maxRecDepth 100000
namespace L2
open PySem PySem.Spec PyProof.Rows
theorem ObjOk.some_ {P : Program} {w : World} {H : Hp} {h : Heap} {a : Addr} {o : HO} (x : ObjOk P w H h a o) : ∃ ob, h.get? a = some ob := by
  cases o with
  | lst xs => obtain ⟨_, _, _, _, e⟩ := x; exact ⟨_, e⟩
  | tup xs => obtain ⟨_, _, _, ob, e, _⟩ := x; exact ⟨_, e⟩
  | dK kvs => obtain ⟨_, _, _, _, o, _, _, e, _⟩ := x; exact ⟨_, e⟩
  | dT kvs => obtain ⟨_, _, _, _, o, _, _, e, _⟩ := x; exact ⟨_, e⟩
  | set S n => obtain ⟨o, _, _, _, e, _⟩ := x; exact ⟨_, e⟩
  | ins C dx fs => obtain ⟨_, _, _, e, _⟩ := x; exact ⟨_, e⟩
  | own y => obtain ⟨_, e⟩ := x; exact ⟨_, e⟩
  | xd fs => obtain ⟨_, ⟨_, _, _, e, _⟩, _⟩ := x; exact ⟨_, e⟩
  | rng lo hi => obtain ⟨_, _, _, e⟩ := x; exact ⟨_, e⟩
  | frz ob u => obtain ⟨e, _⟩ := x; exact ⟨_, e⟩
  | tbl ps => exact ⟨_, (show h.get? a = some _ from x)⟩
  | met f y => exact ⟨_, (show h.get? a = some _ from x)⟩
  | ext φ => obtain ⟨_, ⟨_, e⟩, _⟩ := x; exact ⟨_, e⟩
theorem Inv.there {X : Cx} {pins : List (Addr × Obj)} {σ : St} {H : Hp} {s : Shared} (I : Inv X pins σ H s) {a : Addr} {o : HO} (e : H a = some o) : ∃ ob, s.heap.get? a = some ob := (I.hok a o e).some_
theorem Inv.none_of {X : Cx} {pins : List (Addr × Obj)} {σ : St} {H : Hp} {s : Shared} (I : Inv X pins σ H s) {a : Addr} (e : s.heap.get? a = none) : H a = none := by
  cases q : H a with
  | none => rfl
  | some o =>
    obtain ⟨ob, z⟩ := I.there q
    rw [e] at z
    cases z
structure Fly (h0 h : Heap) (H : Hp) (C ea T : Addr) : Prop where
  ob : ∃ (oe : Obj) (vs : Array Value) (a0 : Value) (oT : Obj) (ts : Array Value), h.get? ea = some oe ∧ oe.cls = .ref C ∧ oe.data = .fields vs ∧ vs[0]? = some a0 ∧ vs[1]? = some (.ref T) ∧ h.get? T = some oT ∧ oT.data = .fields ts ∧ ts[3]? = some .none
  ne : T ≠ ea
  fe : H ea = none
  fT : H T = none
  ne0 : h0.get? ea = none
  nT0 : h0.get? T = none
def CXE (P : Program) (w : World) : CXT := fun outer H s E e s' => ∃ (ea T C : Addr) (H' : Hp), e = .ref ea ∧ s'.os = s.os ∧ AllBare s'.gens ∧ Un (frs outer) [] H H' s.heap s'.heap ∧ HOk P w H' s'.heap ∧ Fly s.heap s'.heap H' C ea T ∧ E (.ref C) none H'
theorem passE0 {P : Program} {w : World} {X : Cx} : Passes (CXE P w) X E0 := fun _ _ _ _ _ _ _ ⟨_, _, _, _, _, _, _, _, _, _, z⟩ => z.elim
structure Exc (K : PySem.W.Frag) (mg : Str → Option Value) (x : Str) (C : Addr) : Prop where
  bound : mg x = some (.ref C)
  ex : PySem.W.excIn K C [.type "ValueError", .type "Exception", .type "BaseException", .type "object"] "ValueError.__new__" = true
theorem exc_obj {K : PySem.W.Frag} {h : Heap} {C : Addr} {bmB : List Value} {newId : String} (X : K.In h) (q : PySem.W.excIn K C bmB newId = true) :
    ∃ bm N nm qn bs hdct sn sub ab col dd k0 k1 k2 k3 k5 mN, h.get? C = some (excClassObj nm qn C N bs bm hdct sn sub ab col dd k0 k1 k2 k3 k5 newId) ∧ h.Ns N mN ∧ mN "__init__" = none ∧ OwnTail h bmB bm := by
  unfold PySem.W.excIn at q
  split at q
  case h_2 => cases q
  case h_1 dd cd sl ho =>
    split at q
    case h_2 => cases q
    case h_1 C' bm k0 k1 k2 k3 n k5 hm hs =>
      simp only [Bool.and_eq_true, beq_iff_eq, Bool.not_eq_true'] at q
      obtain ⟨⟨⟨⟨⟨e1, e2⟩, e3⟩, e4⟩, e5⟩, e6⟩ := q
      subst e1 e2
      cases cd with
      | mk nm bs mro ns qn hd sn sub ab col del =>
        have hsl : sl = #[k0, k1, k2, k3, some (.builtin n), k5] := by rw [← Array.toList_inj]; exact hs
        simp only at hm e3 e5 e6
        subst hm e3 hsl
        exact ⟨bm, ns, nm, qn, bs, hd, sn, sub, ab, col, dd, k0, k1, k2, k3, k5, _, X _ _ ho, .of_isNs (PySem.W.isNs_of_in X e5), PySem.W.nsMap_none_of_in X e5 e6, PySem.W.tail_of_in X e4⟩
def tRaise (C : Addr) (t : TA) (E : XK) : TS := fun _ σ H => t σ H fun xs H1 => xs.length ≤ sizeLine ∧ E (.ref C) none H1
theorem Inv.hid {X : Cx} {pins : List (Addr × Obj)} {σ : St} {H : Hp} {s : Shared} (I : Inv X pins σ H s) (as : List Addr) (hs : ∀ b ∈ frs X.stack, b ∈ as) : s.heap.FunFrames (PySem.W.hideAll s.heap as) X.stack :=
  PySem.W.funFrames_hide I.stack fun env he a hf => hs a (List.mem_filterMap.mpr ⟨env, he, hf⟩)
section
variable {P : Program} {w : World} {K : PySem.W.Frag} {mg : Str → Option Value} {base : Heap} {N : List Str} {qual : Str} {scope : Scope} {f : Addr} {cd : Value} {A : Around} {outer : List Env} {s₀ : Shared} {H₀ : Hp} {E : XK}
theorem leaves_made {pins : List (Addr × Obj)} {σ : St} {H : Hp} {s : Shared} {C e : Addr} {vs : List Value} {h' : Heap} (I : Inv (cxOf (CXE P w) P w K mg base N qual scope f cd A outer s₀ H₀ E) pins σ H s)
    (hx : Heap.MadeExcOf s.heap h' e (.ref C) vs) (q : E (.ref C) none H) : (cxOf (CXE P w) P w K mg base N qual scope f cd A outer s₀ H₀ E).xe (.ref e) { s with heap := h' } := by
  have hin : ∀ b ∈ frs (envOfC qual scope s₀.heap.objs.size f cd :: outer), b ∈ frs (envOfC qual scope s₀.heap.objs.size f cd :: outer) := fun _ z => z
  have ff := I.hid _ hin
  show wpAny _ _ (leaving _ _) _ _ _
  refine wpAny_leaves_madeW (base := PySem.W.hideAll s.heap (frs (envOfC qual scope s₀.heap.objs.size f cd :: outer))) (h := s.heap) I.ok.frames rfl (fun b o z => PySem.W.of_hideAll _ z) ff hx fun h2 t fl tt tn up => ?_
  have inB : ∀ b o, b ∉ frs (envOfC qual scope s₀.heap.objs.size f cd :: outer) → s.heap.get? b = some o → h2.get? b = some o := fun b o nb z => fl.1 b o (PySem.W.hideAll_get _ z nb)
  have upS : ∀ b o, b ∈ frs (envOfC qual scope s₀.heap.objs.size f cd :: outer) → s.heap.get? b = some o → ∃ sl, h2.get? b = some { o with slots := sl } := fun b o nb z => by
    obtain ⟨_, o', z', hd⟩ := I.stack.mem nb
    rw [z] at z'
    cases z'
    exact up b o (hx.keeps b o z) hd
  have notL : ∀ b o, s₀.heap.get? b = some o → b ∉ frs outer → b ∉ frs (envOfC qual scope s₀.heap.objs.size f cd :: outer) := fun b o z nb m => by
    rcases List.mem_cons.mp (I.stkSub b m) with z' | z'
    · have := Heap.lt_size z
      have z' : b = s₀.heap.objs.size := z'
      rw [z'] at this
      exact Nat.lt_irrefl _ this
    · exact nb z'
  have thr : ∀ b o, s.heap.get? b = some o → ∃ o', h2.get? b = some o' := fun b o z => by
    by_cases hb : b ∈ frs (envOfC qual scope s₀.heap.objs.size f cd :: outer)
    · obtain ⟨sl, z'⟩ := upS b o hb z
      exact ⟨_, z'⟩
    · exact ⟨o, inB b o hb z⟩
  obtain ⟨_, _, _, oe, vs', T, oT, ts, a1, ⟨a2, a3⟩, a4, a5, a6, a7, a8, a9, a10⟩ := fl
  have noT : s.heap.get? T = none := by
    cases z : s.heap.get? T with
    | none => rfl
    | some o =>
      by_cases hb : T ∈ frs (envOfC qual scope s₀.heap.objs.size f cd :: outer)
      · obtain ⟨_, o', z', hd⟩ := I.stack.mem hb
        obtain ⟨sl, z2⟩ := upS T o hb z
        rw [z] at z'
        cases z'
        rw [a8] at z2
        cases z2
        exact absurd a9 (hd ts)
      · rw [PySem.W.hideAll_get _ z hb] at a6
        cases a6
  have no0 : ∀ b, s.heap.get? b = none → s₀.heap.get? b = none := fun b z => by
    cases y : s₀.heap.get? b with
    | none => rfl
    | some o =>
      obtain ⟨o', z'⟩ := I.base.there b o y (fun m => nomatch m)
      rw [z] at z'
      cases z'
  refine ⟨e, T, C, H, rfl, I.os, I.bare, ⟨fun b o z n nb _ => ?_, fun b o z n nb _ => ?_, fun b o z n _ => I.base.free b o z n (fun m => nomatch m), fun b o z _ => ?_, I.base.tups, I.base.frzs, I.base.tbls⟩, fun a o z => ?_,
    ⟨⟨oe, vs', .ref t, oT, ts, a1, a2, a4, a3, a5, a8, a9, a10⟩, a7, I.none_of hx.new, I.none_of noT, no0 _ hx.new, no0 _ noT⟩, q⟩
  · exact inB b o (notL b o z nb) (I.base.keep b o z n nb (fun m => nomatch m))
  · obtain ⟨sl, z1⟩ := I.base.slot b o z n nb (fun m => nomatch m)
    obtain ⟨sl', z2⟩ := upS b _ (by
      show b ∈ frs _
      unfold frs
      rw [List.filterMap_cons]
      exact List.mem_cons_of_mem _ nb) z1
    exact ⟨sl', z2⟩
  · obtain ⟨o', z'⟩ := I.base.there b o z (fun m => nomatch m)
    exact thr b o' z'
  · refine (I.hok a o z).stay (fun b u hb r => ?_) (fun _ y => y) fun _ _ y => y
    refine inB b u (fun m => ?_) r
    have := I.stkFree b m
    rcases hb with rfl | hb
    · rw [z] at this; cases this
    · rw [hb] at this; cases this
theorem ps_raise {x : Str} {C : Addr} {e : Expr} {es : List Expr} {t : TA} {np cpos pos : Pos} (ex : Exc K mg x C) (hh : A.handled = none) (hg : Gl (cxOf (CXE P w) P w K mg base N qual scope f cd A outer s₀ H₀ E) x)
    (ha : PA (cxOf (CXE P w) P w K mg base N qual scope f cd A outer s₀ H₀ E) (e :: es) t)
    (hs : starEach (e :: es) (envOfC qual scope s₀.heap.objs.size f cd) = (false, eval e (envOfC qual scope s₀.heap.objs.size f cd)) :: starEach es (envOfC qual scope s₀.heap.objs.size f cd) := by rfl)
    (hpl : (backTo cpos (starEach es (envOfC qual scope s₀.heap.objs.size f cd))).any (·.1) = false := by rfl) (hd : (x == ("__debug__" : Str)) = false := by decide) :
    PS (cxOf (CXE P w) P w K mg base N qual scope f cd A outer s₀ H₀ E) (.Raise (some (.Call (.Name x np) (e :: es) [] cpos)) none pos) (tRaise C t E) := by
  intro pins s σ H D I h
  obtain ⟨bm, N', nm, qn, bs, hdct, sn, sub, ab, col, dd, k0, k1, k2, k3, k5, mN, hC, hN, hni, TL⟩ := exc_obj (h := base) I.mod.kin ex.ex
  refine wpAny_Raise_call_subT (C := C) (nm := nm) (q := qn) (N := N') (bs := bs) (bm := bm) (hdct := hdct) (sn := sn) (sub := sub) (ab := ab) (col := col) (dd := dd) (k0 := k0) (k1 := k1) (k2 := k2) (k3 := k3) (k5 := k5)
    PySem.F.excBase_ValueError (mN := mN) (TL.hasType PySem.F.excBase_ValueError.hasBase) hh (by
      show (backTo cpos (starEach (e :: es) (envOfC qual scope s₀.heap.objs.size f cd))).any (·.1) = false
      rw [hs]
      show (false || (backTo cpos (starEach es (envOfC qual scope s₀.heap.objs.size f cd))).any (·.1)) = false
      rw [hpl]
      rfl) hni (ld_glob I hg ex.bound ⟨rfl, ?_⟩ hd)
  have h1 := ha cpos pins s σ H _ I h
  show wpAny _ _ (evalArgs (.ref C) true (backTo cpos (starEach (e :: es) (envOfC qual scope s₀.heap.objs.size f cd))) []) _ _ _
  have h1 : wpAny _ _ (spliced (backTo cpos (starEach (e :: es) (envOfC qual scope s₀.heap.objs.size f cd)))) _ _ s := h1
  rw [hs] at h1 ⊢
  refine Calls.evalArgs_plain (wpAny_mono h1 (fun us s2 ⟨xs, H2, I2, r, z, q⟩ => ⟨rfl, ?_, I2.bk _ _ hC, hN.keeps I2.bk, TL.keeps I2.bk, fun h' e' hx => ?_⟩) fun _ _ y => y)
  · rw [← r.length]; exact z
  · exact leaves_made I2 hx q
end
theorem Fun.okE {P : Program} {w : World} {K : PySem.W.Frag} {mg : Str → Option Value} {base : Heap} {x qual : Str} {st : Stmt} {f : Addr} {fd : FuncData} {N ps : List Str} {k : Nat} {sp : Sp} (F : Fun K x qual st f fd) (S : FnScope N ps (defScope st)) (len : ∀ vs H Q E, sp vs H Q E → vs.length = ps.length)
    (hbody : ∀ (cdv : Value) (A : Around) (outer : List Env) (s : Shared) (H : Hp) (vs : List V) (Q : VK) (E : XK), Room k (A.deeper (envOfC qual (defScope st) s.heap.objs.size f cdv)) → A.handled = none → sp vs H Q E →
      ∃ t, PSs (cxOf (CXE P w) P w K mg base N qual (defScope st) f cdv A outer s H E) (defBody st) t ∧ t { nx := fun _ H' => Q .non H', rt := Q } (start N vs) H) : FnOk P w K mg base (CXE P w) (k + 1) f fd ps sp := by
  obtain ⟨oc, od, kV, doc, pm, an, cdv, ct, osl, rfl, lk, hcd⟩ := F.ex
  exact fn_of lk hcd S len fun A outer s H vs Q E hr hsp => hbody cdv A outer s H vs Q E hr hr.hd hsp
end L2
set_option Elab.async false
set_option linter.all false
set_option maxRecDepth 100000
namespace L2
open PySem PySem.Spec PyProof.Rows
section
variable {prog : Program} {w : World} {A : Around} {E : Value → Shared → Prop} {z : Shared}
end
theorem Inv.track {X : Cx} {pins : List (Addr × Obj)} {σ : St} {H : Hp} {s : Shared} {p : Addr} {o : HO} (I : Inv X pins σ H s) (hn : H p = none) (h0 : X.s₀.heap.get? p = none) (hl : p ≠ X.env.locals)
    (hc : ∀ x c, X.env.cells.lookup x = some c → c ≠ p) (hp : ∀ q ∈ X.pn ++ pins, q.1 ≠ p) (new : ObjOk X.prog X.w (upd H p o) s.heap p o) : Inv X pins σ (upd H p o) s where
  ok := I.ok
  os := I.os
  bare := I.bare
  base := ⟨I.base.keep, I.base.slot, fun b ob e n hx => by
      rw [upd_ne (fun z => by rw [z, h0] at e; cases e)]
      exact I.base.free b ob e n hx, I.base.there,
    fun b xs e => by rw [upd_ne (ne_of_none (I.base.tups b xs e) hn)]; exact I.base.tups b xs e,
    fun b ob u e => by rw [upd_ne (ne_of_none (I.base.frzs b ob u e) hn)]; exact I.base.frzs b ob u e,
    fun b ps e => by
      obtain ⟨m, z⟩ := I.base.tbls b ps e
      exact ⟨m, by rw [upd_ne (ne_of_none z hn)]; exact z⟩⟩
  loc := I.loc
  cell := I.cell
  free := by rw [upd_ne hl.symm]; exact I.free
  freeC := fun x c e => by rw [upd_ne (hc x c e)]; exact I.freeC x c e
  pin := fun q m => by
    obtain ⟨a, b, c⟩ := I.pin q m
    exact ⟨a, by rw [upd_ne (hp q m)]; exact b, c⟩
  hok := fun b u e => by
    by_cases hb : b = p
    · subst hb
      rw [upd_same] at e
      cases e
      exact new
    · rw [upd_ne hb] at e
      exact (I.hok b u e).stay (fun _ _ _ q => q) (fun c q => by rw [upd_ne (ne_of_none q hn)]; exact q) fun c xs q => by rw [upd_ne (ne_of_none q hn)]; exact q
  len := I.len
end L2
set_option Elab.async false
set_option linter.all false
set_option maxRecDepth 100000
namespace L2
open PySem PySem.Spec PyProof.Rows
theorem getD_at {α : Type} {xs : List α} {i : Nat} {d : α} (h : i < xs.length) : xs.getD i d = xs[i] := by
  rw [List.getD_eq_getElem?_getD, List.getElem?_eq_getElem h]
  rfl
section
variable {X : Cx}
theorem val_at {xs : List V} {us : List Value} (r : Vals xs us) {j : Nat} (h1 : j < us.length) : RelV (xs.getD j .non) us[j] := by
  have hl := r.length
  obtain ⟨u, hu, ru⟩ := r.get (i := j) (x := xs.getD j .non) (by rw [List.getElem?_eq_getElem (by omega), getD_at (by omega)])
  rw [List.getElem?_eq_getElem h1] at hu
  cases hu
  exact ru
end
end L2
set_option linter.all false
namespace Srt
open PySem.W PyProof.Rows
section
variable {key : Nat → Int} {n : Nat}
end
end Srt
set_option Elab.async false
set_option linter.all false
set_option maxRecDepth 100000
namespace L2
open PySem PySem.Spec PyProof.Rows PySem.W
section
variable {X : Cx} {pins : List (Addr × Obj)} {σ : St} {H : Hp} {s : Shared}
structure Young (X : Cx) (pins : List (Addr × Obj)) (b : Addr) : Prop where
  lo : b ≠ X.env.locals
  fs : b ∉ X.fs
  ge : b ∈ X.ex ∨ X.s₀.heap.objs.size ≤ b
  ce : ∀ x c, X.env.cells.lookup x = some c → c ≠ b
  pi : ∀ p ∈ X.pn ++ pins, p.1 ≠ b
theorem Inv.young (I : Inv X pins σ H s) {b : Addr} (hb : s.heap.objs.size ≤ b) : Young X pins b := by
  obtain ⟨_, a1, a2, a3, a4, a5⟩ := I.fpOk (b := b) hb (H' := fun _ => none) rfl
  exact ⟨a1, a2, a3, a4, a5⟩
theorem Inv.record (I : Inv X pins σ H s) {b : Addr} {h' : Heap} (y : Young X pins b) (hn : H b = none) (hs : Heap.SameBut b s.heap h') : Inv X pins σ H { s with heap := h' } :=
  I.turned (t' := s.toks) (fun c o nc e => (hs.2 c nc).trans e) hn y.lo y.ge y.ce y.pi
end
end L2
set_option Elab.async false
set_option linter.all false
set_option maxRecDepth 100000
namespace L2
open PySem PySem.Spec PyProof.Rows PySem.W
section
variable {X : Cx} {pins : List (Addr × Obj)} {σ : St} {H : Hp} {s : Shared}
end
end L2
set_option Elab.async false
set_option linter.all false
set_option maxRecDepth 100000
namespace L2
open PySem PySem.Spec PyProof.Rows PySem.W Builtin.Getset_descriptor
def ExcIs (ea C : Addr) : Heap → Prop := fun h => ∃ o, h.get? ea = some o ∧ o.cls = .ref C
theorem ExcIs.ok {P : Program} {w : World} {H : Hp} {h : Heap} {ea C : Addr} (x : ExcIs ea C h) : ObjOk P w H h ea (.ext (ExcIs ea C)) :=
  ⟨x, let ⟨o, e, _⟩ := x; ⟨o, e⟩, fun _ _ ⟨o, e, c⟩ k => ⟨o, k o e, c⟩⟩
theorem ExcIs.ty {M : Model} {h : Heap} {ea C : Addr} (x : ExcIs ea C h) : Looks M h (typeOf (.ref ea)) (.ref C) := by
  obtain ⟨o, e, c⟩ := x
  rw [← c]
  exact (Looks.ld e).andThen .now
section
variable {prog : Program} {w : World} {A : Around} {E : Value → Shared → Prop} {K : Frag} {x C : Addr}
theorem exc_class_get {s : Shared} {tp : Value} {R : Result → Shared → Prop} (X : K.In s.heap) (J : ExcIs x C s.heap) (hm : mroIn K C (.type "object") = some true) (q : R (.ok (.ret (.ref C))) s) :
    codeAny (model prog w) A (.call (.builtin "getset_descriptor.__get__") ⟨[.builtin "object.__class__", .ref x, tp], []⟩) R s := by
  obtain ⟨h0, g0, d0, t0, o0⟩ := s
  have LT := J.ty (M := model prog w)
  have LM := looks_mroIn (M := model prog w) X hm
  refine codeAny_call_builtin KF.slot_gs.plain KF.entry_gs ?_
  refine KF.slot_gs.check _ _ _ _ _ _ _ _ KF.type_class (KF.args_gs _ _ _) ?_
  unfold Builtin.«getset_descriptor.__get__»
  unfold descrGet
  rw [dga_obj]
  refine wpAny_bind ?_
  refine wpAny_pure ?_
  unfold descrGetter
  unfold descrCheckInstance
  unfold descrNameAndClass
  unfold isInstance
  simp only [KF.owner_class]
  repeat lk
  refine ⟨Code.quiet_builtin _ (by decide +kernel), ?_⟩
  refine codeAny_builtin KF.entry_class ?_
  unfold Builtin.«object.__class__»
  unfold shownTypeOf
  repeat lk
  exact q
structure ExcCls (K : Frag) (C : Addr) : Prop where
  ga : findIn K (.ref C) "__getattribute__" = some (some (.builtin "BaseException.__getattribute__"))
  gn : findIn K (.ref C) "__getattr__" = some none
  ha : findIn K (.ref C) "__class__" = some (some (.builtin "object.__class__"))
  hn : specialIn K (.builtin "object.__class__") "__get__" = some (some (.builtin "getset_descriptor.__get__"))
  tk : takesIn K (.builtin "object.__class__") = some true
  mo : mroIn K C (.type "object") = some true
  mb : mroIn K C (.type "BaseException") = some true
  ty : typeIn K (.ref C) = some (.type "type")
  cl : (clsIn K C).isSome = true
theorem exc_find {M : Model} {h : Heap} (X : K.In h) (J : ExcIs x C h) (c : ExcCls K C) : Looks M h (Builtin.ObjectAttr.find (.ref x) (.ref C) "__class__") (.bind (.builtin "getset_descriptor.__get__") (.builtin "object.__class__")) := by
  have L1 := looks_findIn (M := M) X c.ha
  have L2 : Looks M h (Builtin.ObjectAttr.getOf (some (.builtin "object.__class__"))) (some (.builtin "getset_descriptor.__get__")) := looks_specialIn X c.hn
  have L3 := looks_takesIn (M := M) X c.tk
  exact L1.andThen (L2.andThen ((show Looks M h (Builtin.ObjectAttr.dataDescriptor? (some (.builtin "object.__class__")) (some (.builtin "getset_descriptor.__get__"))) (some (.builtin "getset_descriptor.__get__", .builtin "object.__class__")) from L3.andThen .now).andThen (Looks.tag .now)))
theorem exc_entry {s : Shared} {tk : Tok} {R : Result → Shared → Prop} (X : K.In s.heap) (J : ExcIs x C s.heap) (c : ExcCls K C) (q : R (.ok (.ret (.ref C))) s) :
    codeAny (model prog w) A (.call (.builtin "BaseException.__getattribute__") ⟨[.ref x, .str "__class__" tk], []⟩) R s := by
  obtain ⟨h0, g0, d0, t0, o0⟩ := s
  have LT := J.ty (M := model prog w)
  have LF := exc_find (M := model prog w) X J c
  have LB := looks_mroIn (M := model prog w) X c.mb
  refine codeAny_call_builtin PySem.F.attr_ValueError.ga.plain PySem.F.entry_bexc_ga ?_
  have hk : builtinKind "BaseException.__getattribute__" = some .slot := by decide +kernel
  have hsp : splitId "BaseException.__getattribute__" = some ("BaseException", "__getattribute__") := by decide +kernel
  have hao := PySem.F.args_bexc_ga (.ref x) (.str "__class__" tk)
  simp only [checkBuiltinCall, hk, hsp]
  refine wpAny_bind ?_
  unfold isInstance
  repeat (any_goals (first | assumption | with_reducible refine Looks.at (by assumption) ?_ | wp_step))
  refine exc_class_get X J c.mo ?_
  repeat (any_goals (first | assumption | wp_step))
theorem exc_attr {s : Shared} {Q : Option Value → Shared → Prop} (X : K.In s.heap) (J : ExcIs x C s.heap) (c : ExcCls K C) (q : Q (some (.ref C)) { s with toks := s.toks + 1 }) : wpAny (model prog w) A (getAttr? (.ref x) "__class__") Q E s := by
  obtain ⟨h0, g0, d0, t0, o0⟩ := s
  have LT := J.ty (M := model prog w)
  have L1 := looks_findIn (M := model prog w) X c.ga
  have L2 := looks_findIn (M := model prog w) X c.gn
  have f3 := PySem.F.attr_ValueError.ga.bind (.ref x)
  have hx2 : (Value.builtin "BaseException.__getattribute__" == Value.builtin "object.__getattribute__") = false := by decide +kernel
  have hx1 : (onTheHeap (Value.ref C) && Value.builtin "BaseException.__getattribute__" == Value.builtin "object.__getattribute__") = false := by rw [hx2]; rfl
  unfold getAttr? getAttrBy?
  repeat (any_goals (first | assumption | with_reducible refine Looks.at (by assumption) ?_ | wp_step))
  refine exc_entry X J c ?_
  repeat (any_goals (first | assumption | wp_step))
theorem exc_matches {s : Shared} {P : Addr} {Q : Bool → Shared → Prop} (X : K.In s.heap) (J : ExcIs x C s.heap) (c : ExcCls K P) (hm : mroIn K C (.ref P) = some true) (q : Q true s) : wpAny (model prog w) A (excMatches (.ref x) (.ref P)) Q E s := by
  obtain ⟨h0, g0, d0, t0, o0⟩ := s
  have LT := J.ty (M := model prog w)
  have LP := looks_typeIn (M := model prog w) X c.ty
  have LM := looks_mroIn (M := model prog w) X hm
  have LB := looks_mroIn (M := model prog w) X c.mb
  have LI : Looks (model prog w) h0 (isType (.ref P)) true := by
    obtain ⟨cd, hc⟩ := Option.isSome_iff_exists.mp c.cl
    unfold clsIn at hc
    split at hc
    · rename_i a1 a2 a3 a4 ho
      intro A' Q' E' s' k z
      unfold isType loadHead
      exact wpAny_bind (wpAny_loadPart (k _ _ (X _ _ ho)) (wpAny_pure z))
    · cases hc
  have LN : Looks (model prog w) h0 (isSubtype (.type "type") (.type "tuple")) false := Looks.of_pure tc_notTuple
  unfold excMatches isInstance isExcClass
  repeat lk
  exact q
theorem kitx_exc (c : ExcCls K C) : KitX K (.ref x) (.ref C) (ExcIs x C) where
  ty := fun _ _ _ J => J.ty
  it := fun M h X _ => by
    obtain ⟨cd, hc⟩ := Option.isSome_iff_exists.mp c.cl
    unfold clsIn at hc
    split at hc
    · rename_i a1 a2 a3 a4 ho
      intro A' Q' E' s' k z
      unfold isType loadHead
      exact wpAny_bind (wpAny_loadPart (k _ _ (X _ _ ho)) (wpAny_pure z))
    · cases hc
  ne := fun h tp dd its n sl X htp => by
    obtain ⟨cd, hc⟩ := Option.isSome_iff_exists.mp c.cl
    refine Bool.eq_false_iff.mpr fun q => ?_
    obtain rfl : C = tp := Value.ref.inj (beq_iff_eq.mp q)
    unfold clsIn at hc
    split at hc
    · rename_i a1 a2 a3 a4 ho
      have z := (X _ _ ho).symm.trans htp
      cases z
    · cases hc
  ca := fun X J k => exc_attr X J c k
end
end L2
set_option Elab.async false
set_option linter.all false
set_option maxRecDepth 100000
namespace L2
open PySem PySem.Spec PyProof.Rows PySem.W
structure FlyIn (X : Cx) (pins : List (Addr × Obj)) (h : Heap) (H : Hp) (C ea T : Addr) : Prop where
  ob : ∃ (oe : Obj) (vs : Array Value) (a0 : Value) (oT : Obj) (ts : Array Value), h.get? ea = some oe ∧ oe.cls = .ref C ∧ oe.data = .fields vs ∧ vs[0]? = some a0 ∧ vs[1]? = some (.ref T) ∧ h.get? T = some oT ∧ oT.data = .fields ts ∧ ts[3]? = some .none
  ne : T ≠ ea
  fe : H ea = none
  fT : H T = none
  s0 : X.s₀.heap.get? ea = none ∧ X.s₀.heap.get? T = none
  lo : X.env.locals ≠ ea ∧ X.env.locals ≠ T
  ce : ∀ x c, X.env.cells.lookup x = some c → c ≠ ea ∧ c ≠ T
  pi : ∀ p ∈ X.pn ++ pins, p.1 ≠ ea ∧ p.1 ≠ T
theorem Inv.exc {X : Cx} {pins : List (Addr × Obj)} {σ : St} {H : Hp} {s : Shared} {h' : Heap} {C ea T : Addr} (I : Inv X pins σ H s) (f : FlyIn X pins s.heap H C ea T)
    (k1 : ∀ b o, b ∉ frs X.stack → b ≠ ea → b ≠ T → s.heap.get? b = some o → h'.get? b = some o) (k2 : ∀ b o, b ∈ frs X.stack → s.heap.get? b = some o → ∃ sl, h'.get? b = some { o with slots := sl }) :
    Inv X pins σ H { s with heap := h' } := by
  have old : ∀ b o, X.s₀.heap.get? b = some o → b ≠ ea ∧ b ≠ T ∧ b ≠ X.env.locals := fun b o e =>
    ⟨(fun z => by rw [z, f.s0.1] at e; cases e), (fun z => by rw [z, f.s0.2] at e; cases e), Nat.ne_of_lt (Nat.lt_of_lt_of_le (Heap.lt_size e) I.ok.above)⟩
  have nst : ∀ b, b ≠ X.env.locals → b ∉ X.fs → b ∉ frs X.stack := fun b n1 n2 m => (List.mem_cons.mp (I.stkSub b m)).elim n1 n2
  have sst : ∀ b, b ∈ X.fs → b ∈ frs X.stack := fun b m => by
    rcases I.ok.stk with e | ⟨e, hf⟩
    · rw [e]; exact m
    · rw [e]
      unfold frs
      rw [List.filterMap_cons, hf]
      exact List.mem_cons_of_mem _ m
  have any : ∀ b o, b ≠ ea → b ≠ T → s.heap.get? b = some o → ∃ sl, h'.get? b = some { o with slots := sl } := fun b o n1 n2 e => by
    by_cases hb : b ∈ frs X.stack
    · exact k2 b o hb e
    · exact ⟨o.slots, k1 b o hb n1 n2 e⟩
  have cellK : ∀ x c, X.env.cells.lookup x = some c → ∀ v, s.heap.IsCell c v → h'.IsCell c v := fun x c e v ⟨o, ho, hd⟩ => by
    obtain ⟨sl, z⟩ := any c o (f.ce x c e).1 (f.ce x c e).2 ho
    exact ⟨_, z, hd⟩
  refine ⟨I.ok, I.os, I.bare, ⟨fun b o e n hb hx => ?_, fun b o e n hb hx => ?_, I.base.free, fun b o e hx => ?_, I.base.tups, I.base.frzs, I.base.tbls⟩, ?_, fun x c e => ?_, I.free, I.freeC, fun p hp => ?_, fun a o z => ?_, I.len⟩
  · obtain ⟨n1, n2, n3⟩ := old b o e
    exact k1 b o (nst b n3 hb) n1 n2 (I.base.keep b o e n hb hx)
  · obtain ⟨sl, z⟩ := I.base.slot b o e n hb hx
    obtain ⟨sl', z'⟩ := k2 b _ (sst b hb) z
    exact ⟨sl', z'⟩
  · obtain ⟨o', z⟩ := I.base.there b o e hx
    obtain ⟨n1, n2, n3⟩ := old b o e
    obtain ⟨sl, z'⟩ := any b o' n1 n2 z
    exact ⟨_, z'⟩
  · obtain ⟨m, ⟨o, es, ep, ho, hd, r⟩, hl⟩ := I.loc
    obtain ⟨sl, z⟩ := any _ o f.lo.1 f.lo.2 ho
    refine ⟨m, ⟨_, es, ep, z, hd, r⟩, fun i x v e1 e2 e3 => ?_⟩
    obtain ⟨u, ru, l⟩ := hl i x v e1 e2 e3
    refine ⟨u, ru, ?_⟩
    rcases l with l | ⟨k, c, e, y⟩
    · exact .inl l
    · exact .inr ⟨k, c, e, cellK x c e _ y⟩
  · obtain ⟨v, y⟩ := I.cell x c e
    exact ⟨v, cellK x c e v y⟩
  · obtain ⟨e, n, n1, n2, d⟩ := I.pin p hp
    exact ⟨k1 p.1 p.2 (nst p.1 n1 n2) (f.pi p hp).1 (f.pi p hp).2 e, n, n1, n2, d⟩
  · refine (I.hok a o z).stay (fun b u hb r => ?_) (fun _ y => y) fun _ _ y => y
    have hb' : ∃ u', H b = some u' := by
      rcases hb with rfl | hb
      · exact ⟨_, z⟩
      · exact ⟨_, hb⟩
    obtain ⟨u', hb'⟩ := hb'
    refine k1 b u (fun m => ?_) (fun y => ?_) (fun y => ?_) r
    · rw [I.stkFree b m] at hb'; cases hb'
    · rw [y, f.fe] at hb'; cases hb'
    · rw [y, f.fT] at hb'; cases hb'
def Cx.tr (X : Cx) (pl : List (Addr × Obj)) (Ec : Addr → St → Hp → Prop) : Cx :=
  { X with pn := X.pn ++ pl, xe := fun e s' => ∃ ea T C σ H, e = .ref ea ∧ Inv X pl σ H s' ∧ FlyIn X pl s'.heap H C ea T ∧ Ec C σ H }
theorem Inv.tr {X : Cx} {pl : List (Addr × Obj)} {σ : St} {H : Hp} {s : Shared} (I : Inv X pl σ H s) (Ec : Addr → St → Hp → Prop) : Inv (X.tr pl Ec) [] σ H s :=
  ⟨⟨I.ok.mod, I.ok.kind, I.ok.glob, I.ok.blt, I.ok.above, I.ok.inj, I.ok.has, I.ok.cab, I.ok.hd, I.ok.frames, I.ok.stk, I.ok.exf, I.ok.bs, I.ok.bsz, I.ok.noex, I.ok.exfs, I.ok.funs, I.ok.frf⟩, I.os, I.bare, I.base, I.loc, I.cell, I.free, I.freeC,
    fun p hp => I.pin p (by simpa [Cx.tr] using hp), I.hok, I.len⟩
theorem Inv.untr {X : Cx} {pl pins : List (Addr × Obj)} {σ : St} {H : Hp} {s : Shared} {Ec : Addr → St → Hp → Prop} (I : Inv (X.tr pl Ec) pins σ H s) : Inv X pl σ H s :=
  ⟨⟨I.ok.mod, I.ok.kind, I.ok.glob, I.ok.blt, I.ok.above, I.ok.inj, I.ok.has, I.ok.cab, I.ok.hd, I.ok.frames, I.ok.stk, I.ok.exf, I.ok.bs, I.ok.bsz, I.ok.noex, I.ok.exfs, I.ok.funs, I.ok.frf⟩, I.os, I.bare, I.base, I.loc, I.cell, I.free, I.freeC,
    fun p hp => I.pin p (List.mem_append_left _ hp), I.hok, I.len⟩
def tCallX (sp : Sp) (dvs : List V) (Ec : Addr → St → Hp → Prop) (t : TA) : TE := fun σ H Q => t σ H fun vs H1 => sp (vs ++ dvs) H1 Q fun c _ H2 => ∃ C, c = .ref C ∧ Ec C σ H2
theorem pe_callX {X : Cx} {pl : List (Addr × Obj)} {Ec : Addr → St → Hp → Prop} {k : Nat} {f : Addr} {fd : FuncData} {ps : List Str} {sp : Sp} {dvs : List V} {ds : List Value} {x : Str} {p pos : Pos} {e : Expr} {es : List Expr} {t : TA}
    (F : FnOk X.prog X.w X.K X.mg X.base (CXE X.prog X.w) k f fd ps sp) (hr : Room k X.A) (hg : Gl X x) (hm : X.mg x = some (.ref f)) (hk : PySem.W.keepIn X.K (.ref f) = true) (hb : Binds X.K fd ps ds) (hd : Vals dvs ds) (hex : X.ex = [])
    (ha : PA (X.tr pl Ec) (e :: es) t) (hdb : (x == ("__debug__" : Str)) = false := by decide) (he : starEach (e :: es) X.env = (false, eval e X.env) :: starEach es X.env := by rfl) (hpl : (backTo pos (starEach es X.env)).any (·.1) = false := by rfl) :
    PE (X.tr pl Ec) (.Call (.Name x p) (e :: es) [] pos) (tCallX sp dvs Ec t) := by
  intro pins s σ H Q I h
  refine wpAny_Call_Name_kw (ld_glob (X := X.tr pl Ec) I hg hm ?_ hdb)
  refine PySem.W.callWith_K (h₀ := X.base) I.ok.mod.kin hk (thn (ha pos pins s σ H _ I h) fun us s1 ⟨vs, H1, I1, r, q⟩ => ⟨I1.kIn, ?_⟩) he hpl
  have r2 : Vals (vs ++ dvs) (us ++ ds) := r.append hd
  have hl : (us ++ ds).length = ps.length := by rw [← r2.length]; exact F.len _ _ _ _ q
  refine wpAny_call (codeAny_mono (F.run X.A X.stack s1 H1 ⟨us, []⟩ (us ++ ds) (vs ++ dvs) Q _ hr I1.env0 (hb s1 us I1.kIn hl) r2 q) fun r s' hq => ?_)
  cases r with
  | ok fl =>
    cases fl with
    | ret u => exact I1.after hq
    | next => exact False.elim hq
    | brk => exact False.elim hq
    | cont => exact False.elim hq
  | error e' =>
    obtain ⟨ea, T, C, H', rfl, os, bare, un, hok, fl, C', eC, z⟩ := hq
    cases eC
    have I2 : Inv (X.tr pl Ec) pins σ H' s' := I1.call' (ch := []) os un hok bare (fun b z => nomatch z)
    have lo : ∀ b o, s1.heap.get? b = some o → b ≠ ea ∧ b ≠ T := fun b o e => ⟨(fun y => by rw [y, fl.ne0] at e; cases e), (fun y => by rw [y, fl.nT0] at e; cases e)⟩
    have s0n : ∀ b, s1.heap.get? b = none → X.s₀.heap.get? b = none := fun b e => by
      cases y : X.s₀.heap.get? b with
      | none => rfl
      | some o =>
        obtain ⟨o', y'⟩ := I1.base.there b o y (by show b ∉ X.ex; rw [hex]; exact fun z => nomatch z)
        rw [e] at y'
        cases y'
    refine ⟨ea, T, C, σ, H', rfl, I2.untr, ⟨fl.ob, fl.ne, fl.fe, fl.fT, ⟨s0n _ fl.ne0, s0n _ fl.nT0⟩, ?_, fun x c e => ?_, fun p hp => ?_⟩, z⟩
    · obtain ⟨m, ⟨o, _, _, ho, _⟩, _⟩ := I1.loc
      exact lo _ o ho
    · obtain ⟨v, o, ho, _⟩ := I1.cell x c e
      exact lo c o ho
    · exact lo _ _ (I1.pin p (List.mem_append_left _ hp)).1
def Cx.su (X : Cx) (e : Value) : Cx := { X with A := X.A.mark (some e), calm := false, xe := fun _ _ => False }
theorem Inv.su {X : Cx} {pins : List (Addr × Obj)} {σ : St} {H : Hp} {s : Shared} (I : Inv X pins σ H s) (e : Value) : Inv (X.su e) pins σ H s :=
  ⟨⟨I.ok.mod, I.ok.kind, I.ok.glob, I.ok.blt, I.ok.above, I.ok.inj, I.ok.has, I.ok.cab, (fun z => nomatch z), I.ok.frames, I.ok.stk, I.ok.exf, I.ok.bs, I.ok.bsz, I.ok.noex, I.ok.exfs, I.ok.funs, I.ok.frf⟩, I.os, I.bare, I.base, I.loc, I.cell, I.free, I.freeC, I.pin, I.hok, I.len⟩
theorem Inv.unsu {X : Cx} {pins : List (Addr × Obj)} {σ : St} {H : Hp} {s : Shared} {e : Value} (ok : X.Ok) (I : Inv (X.su e) pins σ H s) : Inv X pins σ H s :=
  ⟨ok, I.os, I.bare, I.base, I.loc, I.cell, I.free, I.freeC, I.pin, I.hok, I.len⟩
theorem Inv.unname {X : Cx} {pins : List (Addr × Obj)} {σ : St} {H : Hp} {s : Shared} {h' : Heap} {t' : Nat} {i : Nat} {n : Str} {v : Option Value} {m : Str → Option Value} (I : Inv X pins σ H s) (hN : X.N.Nodup) (hi : X.N[i]? = some n)
    (hn : s.heap.Ns X.env.locals m) (hl : ∀ (j : Nat) (x : Str) (w : V), X.N[j]? = some x → σ[j]? = some (some w) → Vis X.env.scope x → ∃ u, RelV w u ∧ Look X.env s.heap m x u) (hn' : h'.Ns X.env.locals fun y => if y = n then v else m y)
    (hs : Heap.SameBut X.env.locals s.heap h') : Inv X pins (σ.set i none) H { s with heap := h', toks := t' } := by
  have old : ∀ b o, X.s₀.heap.get? b = some o → b ≠ X.env.locals := fun b o e => Nat.ne_of_lt (Nat.lt_of_lt_of_le (Heap.lt_size e) I.ok.above)
  refine ⟨I.ok, I.os, I.bare, ⟨fun b o e n hb hx => (hs.2 b (old b o e)).trans (I.base.keep b o e n hb hx), fun b o e n hb hx => ?_, I.base.free, fun b o e hx => ?_, I.base.tups, I.base.frzs, I.base.tbls⟩, ⟨_, hn', fun j y w e1 e2 e3 => ?_⟩, fun y c e => ?_, I.free, I.freeC, fun p hp => ?_, fun b ob e => ?_, by simpa using I.len⟩
  · obtain ⟨sl, z⟩ := I.base.slot b o e n hb hx
    exact ⟨sl, (hs.2 b (old b o e)).trans z⟩
  · obtain ⟨o', z⟩ := I.base.there b o e hx
    exact ⟨o', (hs.2 b (old b o e)).trans z⟩
  · by_cases hj : j = i
    · subst hj
      rw [List.getElem?_set] at e2
      split at e2
      · split at e2 <;> cases e2
      · exact absurd rfl (by assumption)
    · rw [List.getElem?_set_ne (Ne.symm hj)] at e2
      obtain ⟨u, ru, l⟩ := hl j y w e1 e2 e3
      have yn : y ≠ n := fun z => hj (nodup_ix hN e1 (z ▸ hi))
      refine ⟨u, ru, ?_⟩
      rcases l with ⟨k, z⟩ | ⟨k, c, e, z⟩
      · exact .inl ⟨k, by show (if y = n then v else m y) = some u; rw [if_neg yn]; exact z⟩
      · exact .inr ⟨k, c, e, z.sameBut hs (I.cne y c e)⟩
  · obtain ⟨w, z⟩ := I.cell y c e
    exact ⟨w, z.sameBut hs (I.cne y c e)⟩
  · obtain ⟨e, a, b, c, d⟩ := I.pin p hp
    exact ⟨(hs.2 p.1 b).trans e, a, b, c, d⟩
  · refine (I.hok b ob e).stay (fun c w hc q => (hs.2 c ?_).trans q) (fun _ q => q) fun _ _ q => q
    intro z
    rcases hc with rfl | hc
    · rw [z, I.free] at e; cases e
    · rw [z, I.free] at hc; cases hc
def tTry (i : Nat) (CP : Addr → Prop) (tb : (Addr → St → Hp → Prop) → TS) (ts : TS) : TS := fun D σ H =>
  tb (fun C σ1 H1 => CP C ∧ ∀ ea, H1 ea = none → ts { nx := fun σ2 H2 => D.nx (σ2.set i none) H2, rt := D.rt, bk := fun σ2 H2 => D.bk (σ2.set i none) H2, ct := fun σ2 H2 => D.ct (σ2.set i none) H2 } (σ1.set i (some (.ref ea))) (upd H1 ea (.ext (ExcIs ea C)))) D σ H
theorem SP.untr {X : Cx} {pl pins : List (Addr × Obj)} {Ec : Addr → St → Hp → Prop} {D : Ends} {f : Flow} {s' : Shared} (h : SP (X.tr pl Ec) pins D f s') : SP X pl D f s' := by
  cases f with
  | next => obtain ⟨σ', H', I, q⟩ := h; exact ⟨σ', H', I.untr, q⟩
  | brk => obtain ⟨σ', H', I, q⟩ := h; exact ⟨σ', H', I.untr, q⟩
  | cont => obtain ⟨σ', H', I, q⟩ := h; exact ⟨σ', H', I.untr, q⟩
  | ret u => obtain ⟨v, σ', H', I, r, q⟩ := h; exact ⟨v, σ', H', I.untr, r, q⟩
theorem ps_try {X : Cx} {i : Nat} {n x : Str} {P : Addr} {body : List Stmt} {b₀ : Stmt} {suite : List Stmt} {tb : (Addr → St → Hp → Prop) → TS} {ts : TS} {np hpos pos : Pos} (hst : X.stack = X.env :: X.outer) (hf : X.env.frame = some X.env.locals)
    (hN : X.N.Nodup) (hi : X.N[i]? = some n) (hlo : X.env.scope.names.lookup n = some .local) (hg : Gl X x) (hm : X.mg x = some (.ref P)) (cP : ExcCls X.K P) (hb : ∀ pl Ec, PSs (X.tr pl Ec) body (tb Ec)) (hs : ∀ e, PSs (X.su e) (b₀ :: suite) ts)
    (hd : (x == ("__debug__" : Str)) = false := by decide) :
    PS X (.Try body [.ExceptHandler (some (.Name x np)) (some n) (b₀ :: suite) hpos] [] [] pos) (tTry i (fun C => mroIn X.K C (.ref P) = some true) tb ts) := by
  intro pins s σ H D I h
  refine wpAny_Try_except ?_
  have hB := hb pins _ [] s σ H D (I.tr _) h
  refine wpAny_mono hB (fun f s1 q => ?_) fun e s1 q => ?_
  · have q' := q.untr
    cases f with
    | next =>
      obtain ⟨σ', H', I', z⟩ := q'
      exact wpAny_execs_nil ⟨σ', H', I', z⟩
    | brk => exact q'
    | cont => exact q'
    | ret u => exact q'
  obtain ⟨ea, T, C, σ1, H1, rfl, I1, fly, hC, q⟩ := q
  obtain ⟨oe, vs, a0, oT, ts', e1, e2, e3, e4, e5, e6, e7, e8⟩ := fly.ob
  have frN : ∀ b ∈ frs X.stack, b ≠ ea ∧ b ≠ T := fun b hb => by
    obtain ⟨_, o, ho, hnf⟩ := I1.stack.mem hb
    exact ⟨(fun z => by rw [z, e1] at ho; cases ho; exact hnf vs e3), (fun z => by rw [z, e6] at ho; cases ho; exact hnf ts' e7)⟩
  -- the heap without the frames and the exception's records
  have ff : s1.heap.FunFrames (hideAll s1.heap (ea :: T :: frs X.stack)) X.stack := I1.hid _ fun b hb => List.mem_cons_of_mem _ (List.mem_cons_of_mem _ hb)
  have fl : Heap.FlyingW (hideAll s1.heap (ea :: T :: frs X.stack)) X.stack ea (.ref C) a0 s1.heap :=
    ⟨fun b o z => of_hideAll _ z, hideAll_none _ List.mem_cons_self, ff, oe, vs, T, oT, ts', e1, ⟨e2, e4⟩, e3, e5, hideAll_none _ (List.mem_cons_of_mem _ List.mem_cons_self), fly.ne, e6, e7, e8⟩
  have frA : X.A.frames = some (X.env :: X.outer) := by rw [← hst]; exact I.ok.frames
  have back : ∀ {h' : Heap}, Heap.StaysIn (hideAll s1.heap (ea :: T :: frs X.stack)) h' → s1.heap.UpToSlots h' → Inv X pins σ1 H1 { s1 with heap := h' } := fun {h'} st up => by
    refine I1.exc fly (fun b o n1 n2 n3 z => st b o (hideAll_get _ z ?_)) fun b o n1 z => ?_
    · intro m
      rcases List.mem_cons.mp m with m | m
      · exact n2 m
      · rcases List.mem_cons.mp m with m | m
        · exact n3 m
        · exact n1 m
    · obtain ⟨_, o', ho, hnf⟩ := I1.stack.mem n1
      rw [z] at ho
      cases ho
      exact up b o z hnf
  rw [hst] at fl back
  refine wpAny_looks_onW frA hf fl fun h4 held4 up4 => ?_
  refine wpAny_landsW held4 fun h5 fl5 up5 => ?_
  have I5 : Inv X pins σ1 H1 { s1 with heap := h5 } := back fl5.1 (up4.trans up5)
  have J5 : ExcIs ea C h5 := by
    obtain ⟨o, z1, z2⟩ := fl5.there
    exact ⟨o, z1, z2⟩
  refine wpAny_handleBy_cons (codeAny_handlers_test (ld_glob (X := X.su (.ref ea)) (I5.su _) hg hm ?_ hd)) (by intro z; cases z)
  refine exc_matches (K := X.K) (P := P) I5.kIn J5 cP hC ?_
  refine codeAny_handlers_suite_as ?_
  refine lands_againW fl5 fun h6 fl6 up6 => ?_
  have I6 : Inv X pins σ1 H1 { s1 with heap := h6 } := back fl6.1 ((up4.trans up5).trans up6)
  have J6 : ExcIs ea C h6 := by
    obtain ⟨o, z1, z2⟩ := fl6.there
    exact ⟨o, z1, z2⟩
  have I7 : Inv X pins σ1 (upd H1 ea (.ext (ExcIs ea C))) { s1 with heap := h6 } := I6.track fly.fe fly.s0.1 fly.lo.1.symm (fun x c e => (fly.ce x c e).1) (fun p hp => (fly.pi p hp).1) J6.ok
  refine store_ok (X := X.su (.ref ea)) (I7.su _) hN hi (Or.inl hlo) (v := .ref ea) rfl (fun s8 I8 => ?_) (Or.inr hlo)
  refine wpAny_mono (hs _ pins s8 _ _ _ I8 (q ea fly.fe)) (fun f s9 q9 => ?_) fun _ _ z => False.elim z
  have hcls : (X.env.scope.kind == .class || (X.env.scope.kind == .module && X.env.locals != X.env.globals)) = false := by rw [I.ok.kind]; rfl
  have fin : ∀ {σ9 : St} {H9 : Hp} {R : Unit → Shared → Prop}, Inv (X.su (.ref ea)) pins σ9 H9 s9 → (∀ s10, Inv X pins (σ9.set i none) H9 s10 → R () s10) →
      wpAny (model X.prog X.w) X.A (do bindName X.env n .none; unbindBehindTheSuite X.env n hpos) R X.xe s9 := fun {σ9 H9 R} I9 k => by
    obtain ⟨m, hn, hl⟩ := I9.loc
    exact wpAny_nameGoes_keeps hlo hn hcls fun h' v hn' hs' => k _ ((I9.unsu I.ok).unname hN hi hn hl hn' hs')
  cases f with
  | next =>
    obtain ⟨σ9, H9, I9, z⟩ := q9
    exact fin I9 fun s10 I10 => ⟨_, H9, I10, z⟩
  | brk =>
    obtain ⟨σ9, H9, I9, z⟩ := q9
    exact fin I9 fun s10 I10 => ⟨_, H9, I10, z⟩
  | cont =>
    obtain ⟨σ9, H9, I9, z⟩ := q9
    exact fin I9 fun s10 I10 => ⟨_, H9, I10, z⟩
  | ret u =>
    obtain ⟨v, σ9, H9, I9, r, z⟩ := q9
    exact fin I9 fun s10 I10 => ⟨v, _, H9, I10, r, z⟩
end L2
set_option Elab.async false
set_option linter.all false
set_option maxRecDepth 100000
namespace L2
open PySem PySem.Spec PyProof.Rows
end L2
set_option Elab.async false
set_option linter.all false
set_option maxRecDepth 100000
namespace L2
open PySem PySem.Spec PyProof.Rows
def Evl (t : TE) (σ : St) (H : Hp) (v : V) : Prop := ∀ Q : VK, Q v H → t σ H Q
def Tst (t : TT) (σ : St) (H : Hp) (p : Prop) [Decidable p] : Prop := ∀ Q : Bool → Hp → Prop, Q (decide p) H → t σ H Q
section
variable {σ : St} {H : Hp} {ta tb tc : TE} {x y v : V} {i j k : Int} {K : PySem.W.Frag} {D : Ends} {n m : Nat}
theorem evl_var {i : Nat} (h : σ[i]? = some (some v)) : Evl (tVar i) σ H v := fun Q q => ⟨v, h, q⟩
theorem evl_c : Evl (tC v) σ H v := fun Q q => q
theorem evl_I0 {g : Int → Int → V} (a : Evl ta σ H (.int i)) (b : Evl tb σ H (.int j)) : Evl (tOp (rI0 g) ta tb) σ H (g i j) := fun Q q => a _ (b _ ⟨i, j, rfl, rfl, q⟩)
theorem evl_lenL {p : Addr} {ys : List V} (a : Evl ta σ H (.ref p)) (h : SqL K H p ys) : Evl (tCB (fun xs H Q => ∃ p ys, xs = [.ref p] ∧ (SqL K H p ys ∨ SqT K H p ys) ∧ Q (.int ys.length) H) (tCons ta tNil)) σ H (.int ys.length) := fun Q q => a _ ⟨p, ys, rfl, .inl h, q⟩
theorem tst_of {p : Prop} [Decidable p] (a : Evl ta σ H (.bl (decide p))) : Tst (tTest ta) σ H p := fun Q q => a _ ⟨_, rfl, q⟩
theorem tst_if {t : TT} {a b : TS} {p : Prop} [Decidable p] (h : Tst t σ H p) (h1 : p → a D σ H) (h2 : ¬ p → b D σ H) : tIfS t a b D σ H := h _ (by
  by_cases c : p
  · rw [decide_eq_true c, if_pos rfl]; exact h1 c
  · rw [decide_eq_false c, if_neg Bool.false_ne_true]; exact h2 c)
theorem run_next (h : D.nx σ H) : tNext D σ H := h
theorem run_seq {t u : TS} (h : t { D with nx := u D } σ H) : tSeq t u D σ H := h
end
end L2
set_option Elab.async false
set_option linter.all false
set_option maxRecDepth 100000
namespace L2
open PySem PySem.Spec PyProof.Rows PySem.W
inductive TyX (K : Frag) (H : Hp) : V → Value → Prop where
  | of {x : V} {t : Value} (h : TyOf K H x t) : TyX K H x t
  | exc {ea C : Addr} (e : H ea = some (.ext (ExcIs ea C))) (c : ExcCls K C) : TyX K H (.ref ea) (.ref C)
def clsV : V → Value
  | .ref a => .ref a
  | .ty n => .type n
  | _ => .none
def isCls : V → Bool
  | .ref _ => true
  | .ty _ => true
  | _ => false
theorem clsV_rel : ∀ {c : V} {u : Value}, isCls c = true → RelV c u → u = clsV c
  | .ref _, _, _, r => r
  | .ty _, _, _, r => r
theorem clsV_all : ∀ {cs : List V} {us : List Value}, cs.all isCls = true → Vals cs us → us = cs.map clsV
  | _, _, _, .nil => rfl
  | c :: cs, u :: us, h, .cons r t => by
    rw [List.all_cons, Bool.and_eq_true] at h
    rw [clsV_rel h.1 r, clsV_all h.2 t]
    rfl
section
variable {X : Cx}
theorem tyx_kit {pins : List (Addr × Obj)} {σ : St} {H : Hp} {s : Shared} {x : V} {u t : Value} (I : Inv X pins σ H s) (rx : RelV x u) (ty : TyX X.K H x t) : ∃ J, KitX X.K u t J ∧ J s.heap ∧ u ≠ .builtin "__main__.__loader__#opaque" := by
  cases ty with
  | exc e c =>
    cases (show u = Value.ref _ from rx)
    obtain ⟨J, _⟩ := I.hok _ _ e
    exact ⟨_, kitx_exc c, J, fun z => nomatch z⟩
  | of ty =>
    cases ty with
    | non => cases (show u = Value.none from rx); exact ⟨_, kitx_none, True.intro, fun z => nomatch z⟩
    | bl y => cases (show u = Value.bool y from rx); exact ⟨_, kitx_bool, True.intro, fun z => nomatch z⟩
    | int i => obtain ⟨t, q⟩ := (show ∃ t, u = Value.int i t from rx); cases q; exact ⟨_, kitx_int, True.intro, fun z => nomatch z⟩
    | str y => obtain ⟨t, q⟩ := (show ∃ t, u = Value.str y t from rx); cases q; exact ⟨_, kitx_str, True.intro, fun z => nomatch z⟩
    | flt y => obtain ⟨t, q⟩ := (show ∃ t, u = Value.float y t from rx); cases q; exact ⟨_, kitx_float, True.intro, fun z => nomatch z⟩
    | @lst a xs ea =>
      cases (show u = Value.ref a from rx)
      obtain ⟨_, _, n, _, h1⟩ := (show ObjOk X.prog X.w H s.heap a (.lst xs) from I.hok a _ ea)
      exact ⟨_, kitx_list, ⟨_, h1, rfl⟩, fun z => nomatch z⟩
    | @frz a ob xs ea =>
      cases (show u = Value.ref a from rx)
      obtain ⟨_, _, _, n, _, h1⟩ := (show ObjOk X.prog X.w H s.heap a (.frz ob (.lst xs)) from I.hok a _ ea)
      exact ⟨_, kitx_list, ⟨_, h1, rfl⟩, fun z => nomatch z⟩
    | @tup a xs ea =>
      cases (show u = Value.ref a from rx)
      obtain ⟨_, _, _, p⟩ := (show ObjOk X.prog X.w H s.heap a (.tup xs) from I.hok a _ ea)
      obtain ⟨o, h1, h2, _⟩ := p
      exact ⟨_, kitx_tuple, ⟨o, h1, h2⟩, fun z => nomatch z⟩
    | @dK a kvs ea =>
      cases (show u = Value.ref a from rx)
      obtain ⟨_, _, vs, _, p⟩ := (show ObjOk X.prog X.w H s.heap a (.dK kvs) from I.hok a _ ea)
      obtain ⟨o, es, ep, h1, h2, _⟩ := p
      exact ⟨_, kitx_dict, ⟨o, h1, h2.1⟩, fun z => nomatch z⟩
    | @dT a kvs ea =>
      cases (show u = Value.ref a from rx)
      obtain ⟨_, _, xs, _, o, es, ep, h1, h2, _⟩ := (show ObjOk X.prog X.w H s.heap a (.dT kvs) from I.hok a _ ea)
      exact ⟨_, kitx_dict, ⟨o, h1, h2.1⟩, fun z => nomatch z⟩
    | @ins a C dx fs ea cl ha hn htk hm =>
      cases (show u = Value.ref a from rx)
      obtain ⟨mA, O, _⟩ := ins_get I.hok ea
      obtain ⟨od, J, _⟩ := O.look
      exact ⟨_, kitx_own (cl.get _) cl.hd ha hn htk hm, J, fun z => nomatch z⟩
theorem call_isi : CallR X (.builtin "isinstance") (fun xs H Q => ∃ x c t b, xs = [x, c] ∧ isCls c = true ∧ TyX X.K H x t ∧ kitOne X.K t (clsV c) = some b ∧ Q (.bl b) H) := by
  intro pins s σ H xs us Q I r h
  obtain ⟨x, c, t, b, rfl, hc, ty, e, q⟩ := h
  obtain ⟨u, v, rfl, r1, r2⟩ := vals2 r
  rw [clsV_rel hc r2]
  obtain ⟨J, Z, hJ, hx⟩ := tyx_kit I r1 ty
  exact kia_one Z I.kIn hJ e hx fun tk => ⟨.bl b, H, I.tok tk, rfl, q⟩
theorem call_isiT : CallR X (.builtin "isinstance") (fun xs H Q => ∃ x p cs t b, xs = [x, .ref p] ∧ SqT X.K H p cs ∧ cs.all isCls = true ∧ TyX X.K H x t ∧ kitAny X.K t (cs.map clsV) = some b ∧ Q (.bl b) H) := by
  intro pins s σ H xs us Q I r h
  obtain ⟨x, p, cs, t, b, rfl, hp, hc, ty, e, q⟩ := h
  obtain ⟨u, v, rfl, r1, r2⟩ := vals2 r
  cases (show v = Value.ref p from r2)
  obtain ⟨J, Z, hJ, hx⟩ := tyx_kit I r1 ty
  obtain ⟨its, r', pl, hz⟩ := I.tuple hp
  rw [← clsV_all hc r'] at e
  obtain ⟨⟨oc, od, dt, sl⟩, h1, h2, n, h3⟩ := (show s.heap.IsTuple p its.toArray from pl)
  have h2 : oc = .type "tuple" := h2
  have h3 : dt = .seq its.toArray n := h3
  subst h2 h3
  exact kia_tup Z I.kIn hJ h1 e hx fun tk => ⟨.bl b, H, I.tok tk, rfl, q⟩
end
end L2
set_option Elab.async false
set_option linter.all false
set_option maxRecDepth 100000
namespace L2
open PySem PySem.Spec PyProof.Rows PySem.W
end L2
set_option Elab.async false
set_option linter.all false
set_option maxRecDepth 100000
namespace L2
open PySem PySem.Spec PyProof.Rows
section
variable {X : Cx}
end
end L2
set_option Elab.async false
set_option linter.all false
set_option maxRecDepth 100000
namespace L2
open PySem PySem.Spec PyProof.Rows
theorem iteF_of {A B : Prop} (h : if false = true then A else B) : B := by rwa [if_neg Bool.false_ne_true] at h
theorem iteT_of {A B : Prop} (h : if true = true then A else B) : A := by rwa [if_pos rfl] at h
def cxComp (X : Cx) (Nc : List Str) (scope : Scope) (cl : List (Str × Addr)) (s : Shared) (H : Hp) (C : Addr) (fp : List Addr) : Cx :=
  { X with N := Nc, s₀ := s, H₀ := H, env := compEnvC scope cl C X.env, outer := X.stack, ex := fp, fn := fun _ => false, pn := [], xe := fun _ _ => False }
def seen (ix : List (Option Nat)) (σ : St) : St := ix.map fun o => match o with
  | some j => (σ[j]?).getD none
  | none => none
theorem closure_of {scope : Scope} {env : Env} (h : ∀ x ∈ scope.names, x.2 = .free → ∃ c, env.cells.lookup x.1 = some c) :
    ∃ cl, closureFor scope env = pure cl ∧ (∀ x c, cl.lookup x = some c → env.cells.lookup x = some c) ∧ ∀ x ∈ scope.names, x.2 = .free → ∃ c, cl.lookup x.1 = some c := by
  have go : ∀ (ns : List (Str × NameKind)) (cs : List (Str × Addr)), (∀ x ∈ ns, x.2 = .free → ∃ c, env.cells.lookup x.1 = some c) → (∀ x c, cs.lookup x = some c → env.cells.lookup x = some c) →
      ∃ cl, (forIn ns cs fun (x : Str × NameKind) (r : List (Str × Addr)) => (if (x.2 == .free) = true then (do let c ← cellOf env x.1; pure (ForInStep.yield ((x.1, c) :: r))) else pure (ForInStep.yield r) : Sem _)) = pure cl ∧
        (∀ x c, cl.lookup x = some c → env.cells.lookup x = some c) ∧ (∀ x ∈ ns, x.2 = .free → ∃ c, cl.lookup x.1 = some c) ∧ ∀ x c, cs.lookup x = some c → ∃ c', cl.lookup x = some c' := by
    intro ns
    induction ns with
    | nil => intro cs _ h2; exact ⟨cs, rfl, h2, fun x hx => (nomatch hx), fun x c e => ⟨c, e⟩⟩
    | cons p r ih =>
      obtain ⟨n, k⟩ := p
      intro cs h1 h2
      by_cases hk : k = .free
      · subst hk
        obtain ⟨c, hc⟩ := h1 (n, .free) List.mem_cons_self rfl
        have hcs : ∀ x c', List.lookup x ((n, c) :: cs) = some c' → env.cells.lookup x = some c' := fun x c' e => by
          rw [List.lookup_cons] at e
          cases hx : x == n with
          | true => rw [hx] at e; cases e; rw [eq_of_beq hx]; exact hc
          | false => rw [hx] at e; exact h2 x c' e
        obtain ⟨cl, e1, e2, e3, e4⟩ := ih ((n, c) :: cs) (fun x hx => h1 x (List.mem_cons_of_mem _ hx)) hcs
        refine ⟨cl, ?_, e2, fun x hx hf => ?_, fun x c' e => ?_⟩
        · rw [List.forIn_cons]
          have : cellOf env n = pure c := by unfold cellOf; rw [hc]
          simp only [beq_self_eq_true, if_true, this, pure_bind]
          exact e1
        · rcases List.mem_cons.mp hx with rfl | hx
          · exact e4 n c (by rw [List.lookup_cons, beq_self_eq_true])
          · exact e3 x hx hf
        · cases hx : x == n with
          | true => exact e4 x c (by rw [List.lookup_cons, hx])
          | false => exact e4 x c' (by rw [List.lookup_cons, hx]; exact e)
      · obtain ⟨cl, e1, e2, e3, e4⟩ := ih cs (fun x hx => h1 x (List.mem_cons_of_mem _ hx)) h2
        refine ⟨cl, ?_, e2, fun x hx hf => ?_, e4⟩
        · rw [List.forIn_cons]
          have hb : (k == NameKind.free) = false := by simpa using hk
          simp only [hb, Bool.false_eq_true, if_false, pure_bind]
          exact e1
        · rcases List.mem_cons.mp hx with rfl | hx
          · exact absurd hf hk
          · exact e3 x hx hf
  obtain ⟨cl, e1, e2, e3, _⟩ := go scope.names [] h (fun x c e => by cases e)
  refine ⟨cl, ?_, e2, e3⟩
  unfold closureFor
  simp only [bind_pure]
  exact e1
def PTs (X : Cx) (ifs : List Expr) (t : TT) : Prop :=
  ∀ (pins : List (Addr × Obj)) (s : Shared) (σ : St) (H : Hp) (Q : Bool → Hp → Prop), Inv X pins σ H s → t σ H Q →
    wpAny (model X.prog X.w) X.A (forIn ifs true fun c r => if r = true then do let ok ← isTrue c X.env (eval c X.env); pure (ForInStep.yield ok) else pure (ForInStep.yield r)) (TP X pins σ Q) X.xe s
def tYes : TT := fun _ H Q => Q true H
theorem pts_nil {X : Cx} : PTs X [] tYes := fun _ _ _ H _ I h => wpAny_tests_nil ⟨H, I, h⟩
theorem pts_one {X : Cx} {c : Expr} {t : TT} (h : PT X c t) : PTs X [c] t := fun pins s σ H Q I q => wpAny_tests_one (h pins s σ H Q I q)
def tCompR (wi : TI) (ix : List (Option Nat)) (g : TG) (tc : TT) (te : TE) (σ : St) (H : Hp) (R : List V → Hp → Prop) : Prop := wi σ H fun J H1 => ∃ W : Nat → Nat → List V → St → Hp → Prop, (∃ m, W 0 m [] (seen ix σ) H1) ∧ ∀ i m ys σ' H', W i m ys σ' H' →
  (J.stop i H' ∧ ys.length ≤ sizeLine ∧ R ys H') ∨
  (J.go i H' ∧ ys.length ≤ sizeLine ∧ ∃ N : List V → St → Hp → Prop, (∀ ys' σ2 H2, N ys' σ2 H2 → ∃ m', m' < m ∧ W (i + 1) m' ys' σ2 H2) ∧
    ∀ x H2, J.yld i H' x H2 → g x σ' H2 fun σ2 H3 => tc σ2 H3 fun b H4 => if b = true then te σ2 H4 fun y H5 => N (ys ++ [y]) σ2 H5 else N ys σ2 H4)
def tComp (wi : TI) (ix : List (Option Nat)) (g : TG) (tc : TT) (te : TE) : TE := fun σ H Q => tCompR wi ix g tc te σ H fun ys H' => ∀ l, H' l = none → Q (.ref l) (upd H' l (.lst ys))
def compOk (scope outer : Scope) (N Nc : List Str) (ix : List (Option Nat)) : Bool :=
  scope.names.all (fun y => y.2 != .cell) && scope.kind == .function && scope.names.all (fun y => y.2 != .local || scope.names.lookup y.1 == some .local) &&
  scope.names.all (fun y => y.2 != .free || outer.names.lookup y.1 == some .cell || outer.names.lookup y.1 == some .free) && ix.length == Nc.length &&
  (List.range Nc.length).all fun i => match ix[i]?, Nc[i]? with
    | some (some j), some x => N[j]? == some x && (outer.names.lookup x == some .cell || outer.names.lookup x == some .free) && scope.names.lookup x == some .free
    | _, _ => true
theorem relabel_of {env : Env} : ∀ {names : List (Str × NameKind)} {y : Str} {k : NameKind}, (∀ z ∈ names, z.2 ≠ .cell) →
    (names.map fun (n, k) => if (k == NameKind.free && env.scope.kind == .function && env.kindOf n == some .cell) then (n, NameKind.cell) else (n, k)).lookup y = some k → k = .cell ∨ k = .free → ∃ z ∈ names, z.1 = y ∧ z.2 = .free
  | [], _, _, _, h, _ => by simp at h
  | (n, k0) :: r, y, k, hc, h, hk => by
    rw [List.map_cons] at h
    have h : List.lookup y ((if (k0 == NameKind.free && env.scope.kind == .function && env.kindOf n == some .cell) = true then (n, NameKind.cell) else (n, k0)) :: _) = some k := h
    cases hx : y == n with
    | true =>
      by_cases hb : (k0 == NameKind.free && env.scope.kind == .function && env.kindOf n == some .cell) = true
      · simp only [Bool.and_eq_true, beq_iff_eq] at hb
        exact ⟨(n, k0), List.mem_cons_self, (eq_of_beq hx).symm, hb.1.1⟩
      · rw [if_neg hb, List.lookup_cons, hx] at h
        cases h
        rcases hk with rfl | rfl
        · exact absurd rfl (hc (n, .cell) List.mem_cons_self)
        · exact ⟨(n, .free), List.mem_cons_self, (eq_of_beq hx).symm, rfl⟩
    | false =>
      have h' : List.lookup y (r.map fun (n, k) => if (k == NameKind.free && env.scope.kind == .function && env.kindOf n == some .cell) then (n, NameKind.cell) else (n, k)) = some k := by
        by_cases hb : (k0 == NameKind.free && env.scope.kind == .function && env.kindOf n == some .cell) = true
        · rw [if_pos hb, List.lookup_cons, hx] at h; exact h
        · rw [if_neg hb, List.lookup_cons, hx] at h; exact h
      obtain ⟨z, hz, e1, e2⟩ := relabel_of (fun z hz => hc z (List.mem_cons_of_mem _ hz)) h' hk
      exact ⟨z, List.mem_cons_of_mem _ hz, e1, e2⟩
theorem relabel_free {env : Env} : ∀ {names : List (Str × NameKind)} {y : Str}, names.lookup y = some .free →
    (names.map fun (n, k) => if (k == NameKind.free && env.scope.kind == .function && env.kindOf n == some .cell) then (n, NameKind.cell) else (n, k)).lookup y = some .cell ∨
    (names.map fun (n, k) => if (k == NameKind.free && env.scope.kind == .function && env.kindOf n == some .cell) then (n, NameKind.cell) else (n, k)).lookup y = some .free
  | [], _, h => by simp at h
  | (n, k0) :: r, y, h => by
    rw [List.map_cons]
    show List.lookup y ((if (k0 == NameKind.free && env.scope.kind == .function && env.kindOf n == some .cell) = true then (n, NameKind.cell) else (n, k0)) :: _) = _ ∨ List.lookup y ((if (k0 == NameKind.free && env.scope.kind == .function && env.kindOf n == some .cell) = true then (n, NameKind.cell) else (n, k0)) :: _) = _
    cases hx : y == n with
    | true =>
      rw [List.lookup_cons, hx] at h
      cases h
      by_cases hb : ((NameKind.free == NameKind.free) && env.scope.kind == .function && env.kindOf n == some .cell) = true
      · rw [if_pos hb, List.lookup_cons, hx]; exact .inl rfl
      · rw [if_neg hb, List.lookup_cons, hx]; exact .inr rfl
    | false =>
      rw [List.lookup_cons, hx] at h
      by_cases hb : (k0 == NameKind.free && env.scope.kind == .function && env.kindOf n == some .cell) = true
      · rw [if_pos hb, List.lookup_cons, hx]; exact relabel_free h
      · rw [if_neg hb, List.lookup_cons, hx]; exact relabel_free h
theorem comp_core {X : Cx} {elt tg iter : Expr} {ifs : List Expr} {scope : Scope} {pos ipos : Pos} {Nc : List Str} {ix : List (Option Nat)} {wi : TI} {g : TG} {tc : TT} {te : TE} {use : Option (Value → Sem Unit)} {Q' : Value → Shared → Prop} {R : List V → Hp → Prop}
    {pins : List (Addr × Obj)} {σ : St} {H : Hp} {s : Shared} (hc : X.calm = true)
    (hcell : ∀ y ∈ scope.names, y.2 ≠ .cell) (hkind : scope.kind = .function) (hnames : ∀ y ∈ scope.names, y.2 = .local → scope.names.lookup y.1 = some .local)
    (hfree : ∀ y ∈ scope.names, y.2 = .free → X.env.kindOf y.1 = some .cell ∨ X.env.kindOf y.1 = some .free) (hvis : ∀ y k, (relabel scope X.env).names.lookup y = some k → k = .cell ∨ k = .free → ∃ z ∈ scope.names, z.1 = y ∧ z.2 = .free)
    (hlen : ix.length = Nc.length) (hix : ∀ (i : Nat) (x : Str) (j : Nat), Nc[i]? = some x → ix[i]? = some (some j) → X.N[j]? = some x ∧ Vis X.env.scope x ∧ (X.env.kindOf x = some .local → False) ∧ ((relabel scope X.env).names.lookup x = some .cell ∨ (relabel scope X.env).names.lookup x = some .free))
    (hi : PI X tg iter wi) (hg : ∀ cl s H C fp, PG (cxComp X Nc scope cl s H C fp) tg g) (hifs : ∀ cl s H C fp, PTs (cxComp X Nc scope cl s H C fp) ifs tc) (he : ∀ cl s H C fp, PE (cxComp X Nc scope cl s H C fp) elt te)
    (hs : ∀ x, foldedSetIterable iter X.env x = pure x) (I : Inv X pins σ H s) (h : tCompR wi ix g tc te σ H R)
    (fin : ∀ (D C : Addr) (oC : Obj) (ys : List V) (H3 : Hp) (s4 : Shared), (∃ m, ∀ h' : Heap, h'.get? C = some oC → h'.Ns C m) → H3 D = none → (upd H3 D (.lst ys)) C = none → Young X pins C → Inv X (pins ++ [(C, oC)]) σ (upd H3 D (.lst ys)) s4 → R ys H3 →
      compPost (model X.prog X.w) X.A X.xe use Q' (.ref D) C (.ok .next) s4) :
    wpAny (model X.prog X.w) X.A (comprehension (.ListComp elt [⟨tg, iter, ifs, 0⟩] scope pos) scope X.env ipos (newList []) false (eval iter X.env) use) Q' X.xe s := by
  obtain ⟨cl, hclos, clX, clF⟩ := closure_of (scope := scope) (env := X.env) fun x hx hf => I.ok.has x.1 (hfree x hx hf)
  refine wpAny_comprehension_free (use := use) rfl hs hclos hkind hnames (thn (hi pins s σ H _ I h) fun v s1 h1 => thn h1 fun itv s2 h2 => ?_)
  obtain ⟨it, fp, tn, J, H1, rfl, I1, T, t0, hfp, W, ⟨m0, w0⟩, turn⟩ := h2
  refine wpAny_newObj_type (wpAny_newFunctionEnv hcell (by intro y hy; simp at hy) (fun h₁ hns₁ hsb₁ => ?_) hkind)
  dsimp only at hns₁ hsb₁ ⊢
  generalize hH2 : s2.heap.push { cls := .type "list", dict := none, data := .seq ([] : List Value).toArray } = H2 at hns₁ hsb₁ ⊢
  have hC : H2.objs.size = s2.heap.objs.size + 1 := by rw [← hH2, Heap.size_push]
  have hDC : s2.heap.objs.size ≠ H2.objs.size := by rw [hC]; exact Nat.ne_of_lt (Nat.lt_succ_self _)
  have old : ∀ b o, s2.heap.get? b = some o → h₁.get? b = some o := fun b o e => by
    have hb := Heap.lt_size e
    exact hsb₁.extBut b o (by rw [hC]; exact Nat.ne_of_lt (Nat.lt_succ_of_lt hb)) (Heap.get?_push_of_some _ (hH2 ▸ Heap.get?_push_of_some _ e))
  obtain ⟨e0, hacc⟩ : ∃ e0, h₁.get? s2.heap.objs.size = some (seqObj "list" ([] : List Value).toArray e0) := ⟨_, hsb₁.extBut _ _ hDC (Heap.get?_push_of_some _ (hH2 ▸ Heap.get?_push_size _ rfl))⟩
  generalize hCC : H2.objs.size = C at hns₁ hsb₁ hDC hC ⊢
  generalize hDD : s2.heap.objs.size = D at hDC hC hacc ⊢
  have hDle : s2.heap.objs.size ≤ D := Nat.le_of_eq hDD
  have hCle : s2.heap.objs.size ≤ C := by rw [hC, ← hDD]; exact Nat.le_succ _
  have yD := I1.young hDle
  have nD : H1 D = none := I1.hok.fresh hDle
  have nC : H1 C = none := I1.hok.fresh hCle
  have fpLt : ∀ b ∈ fp, b < s2.heap.objs.size := fun b hb => by
    obtain ⟨o, e, _⟩ := T.obj 0 _ t0 b hb
    exact Heap.lt_size e
  have fpD : D ∉ fp := fun hm => absurd (fpLt _ hm) (Nat.not_lt.mpr hDle)
  have fpC : C ∉ fp := fun hm => absurd (fpLt _ hm) (Nat.not_lt.mpr hCle)
  have frN : ∀ b ∈ frs X.stack, b < s2.heap.objs.size := fun b hb => by
    obtain ⟨_, o, ho, _⟩ := I1.stack.mem hb
    exact Heap.lt_size ho
  have frFp : ∀ b ∈ fp, b ∉ frs X.stack := fun b hb hm => by
    rcases List.mem_cons.mp (I1.stkSub b hm) with z | z
    · exact (hfp b hb).2.1 z
    · exact (hfp b hb).2.2.1 z
  -- the block's context
  have ok : (cxComp X Nc scope cl s2 H1 C fp).Ok :=
    ⟨I.ok.mod, (by show (relabel scope X.env).kind = _; exact hkind), I.ok.glob, I.ok.blt, hCle, (fun x y c e1 e2 => I.ok.inj x y c (clX x c e1) (clX y c e2)),
      (fun x hx => by
        obtain ⟨z, hz, rfl, hf⟩ : ∃ z ∈ scope.names, z.1 = x ∧ z.2 = .free := by
          rcases hx with hx | hx
          · exact hvis x _ hx (.inl rfl)
          · exact hvis x _ hx (.inr rfl)
        exact clF z hz hf), (fun x c z => nomatch z), I.ok.hd, I.ok.frames, .inl rfl,
      (fun b hb => ⟨fun z => fpC ((show b = C from z) ▸ hb), fun x c e => (hfp b hb).2.2.2.2.1 x c (clX x c e)⟩), (fun b o e => I1.bs b o e), Nat.le_trans I.ok.bsz I1.sz,
      (fun b o e hb => by
        rcases (hfp b hb).2.2.2.1 with z | z
        · exact I.ok.noex b o e z
        · have := Heap.lt_size (I.ok.bs b o e).1
          exact absurd this (Nat.not_lt.mpr z)),
      frFp, I1.stack, I1.stkFree⟩
  have start : ∀ tk, Inv (cxComp X Nc scope cl s2 H1 C fp) [(D, seqObj "list" ([] : List Value).toArray e0)] (seen ix σ) H1 { s2 with heap := h₁, toks := tk } := fun tk => by
    refine ⟨ok, rfl, I1.bare, Un.kept old, ⟨_, hns₁, fun i x v e1 e2 e3 => ?_⟩, fun x c e => ?_, nC, fun x c e => I1.freeC x c (clX x c e), fun p hp => ?_, I1.hok.kept old, by show (seen ix σ).length = Nc.length; unfold seen; rw [List.length_map]; exact hlen⟩
    · unfold seen at e2
      rw [List.getElem?_map] at e2
      cases ei : ix[i]? with
      | none => rw [ei] at e2; cases e2
      | some o =>
        rw [ei] at e2
        cases o with
        | none => cases e2
        | some j =>
          have e2' : (σ[j]?).getD none = some v := Option.some.inj e2
          have e2'' : σ[j]? = some (some v) := by
            cases ej : σ[j]? with
            | none => rw [ej] at e2'; cases e2'
            | some z => rw [ej] at e2'; exact congrArg some e2'
          obtain ⟨n1, n2, n3, n4⟩ := hix i x j e1 ei
          obtain ⟨m, hm, hl⟩ := I1.loc
          obtain ⟨u, ru, lk⟩ := hl j x v n1 e2'' n2
          refine ⟨u, ru, .inr ⟨n4, ?_⟩⟩
          rcases lk with ⟨k, _⟩ | ⟨_, c, ec, hc'⟩
          · exact (n3 k).elim
          · obtain ⟨z, hz, rfl, hf⟩ : ∃ z ∈ scope.names, z.1 = x ∧ z.2 = .free := by
              rcases n4 with hx | hx
              · exact hvis x _ hx (.inl rfl)
              · exact hvis x _ hx (.inr rfl)
            obtain ⟨c', ec'⟩ := clF z hz hf
            have : c' = c := Option.some.inj ((clX _ _ ec').symm.trans ec)
            subst this
            obtain ⟨o, ho, hd⟩ := hc'
            exact ⟨c', ec', o, old _ o ho, hd⟩
    · obtain ⟨v, o, ho, hd⟩ := I1.cell x c (clX x c e)
      exact ⟨v, o, old _ o ho, hd⟩
    · have hp' : p = (D, seqObj "list" ([] : List Value).toArray e0) := by simpa [cxComp] using hp
      subst hp'
      exact ⟨hacc, nD, hDC, fun hm => absurd (frN _ hm) (Nat.not_lt.mpr hDle), fun v z => by cases z⟩
  have stat : ∀ {ks : List Value} {e : Nat} {H' : Hp}, (∀ b ∈ fp, H' b = none) → ∀ b ∈ fp, FpOk (cxComp X Nc scope cl s2 H1 C fp) [(D, seqObj "list" ks.toArray e)] H' b := fun {ks e H'} hn b hb =>
    ⟨hn b hb, fun z => fpC ((show b = C from z) ▸ hb), frFp b hb, .inl hb, fun x c ec => (hfp b hb).2.2.2.2.1 x c (clX x c ec), fun p hp z => by
      have hp' : p = (D, seqObj "list" ks.toArray e) := by simpa [cxComp] using hp
      subst hp'
      exact fpD ((show b = D from z.symm) ▸ hb)⟩
  have loop : ∀ tk, codeAny (model X.prog X.w) X.A (.compLoop (.ListComp elt [⟨tg, iter, ifs, 0⟩] scope pos) 0 (.ref it) (.ref D) (compEnvC scope cl C X.env)) (compPost (model X.prog X.w) X.A X.xe use Q' (.ref D) C) { s2 with heap := h₁, toks := tk } := fun tk => by
    refine codeAny_loop rfl (fun n s' => ∃ i ys ks e σ' H', Inv (cxComp X Nc scope cl s2 H1 C fp) [(D, seqObj "list" ks.toArray e)] σ' H' s' ∧ Vals ys ks ∧ tn i s'.heap ∧ (∀ b ∈ fp, H' b = none) ∧ W i n ys σ' H') ?_ m0
      ⟨0, [], [], e0, _, H1, start tk, .nil, T.keep _ _ _ t0 fun b _ o e => old b o e, fun b hb => (hfp b hb).1, w0⟩
    rintro n s3 ⟨i, ys, ks, e, σ3, H3, I3, rv, st3, fr3, w3⟩
    show wpAny _ X.A ((compTurn (.ListComp elt [⟨tg, iter, ifs, 0⟩] scope pos) 0 (.ref it) (.ref D) (compEnvC scope cl C X.env)).onRaise (fun x => do noteFrame x (compEnvC scope cl C X.env); theTreesLotGoes x)) _ _ s3
    refine wpAny_noted ?_
    rw [compTurn_list]
    refine wpAny_bind (wpAny_standAt ?_)
    have lk := rv.length
    rcases turn i n ys σ3 H3 w3 with ⟨stop, sz, q⟩ | ⟨go, sz, N, hN, step⟩
    · refine wpAny_bind (thn (T.done (cxComp X Nc scope cl s2 H1 C fp) rfl rfl rfl hc i _ s3 σ3 H3 _ I3 (stat fr3) st3 stop) fun r s4 ⟨hr, I4⟩ => ?_)
      subst hr
      refine wpAny_pure ?_
      obtain ⟨m, ⟨oC, esC, epC, hoC, hdC, rC⟩, _⟩ := I4.loc
      have hoC : s4.heap.get? C = some oC := hoC
      have pD := I4.pin (D, seqObj "list" ks.toArray e) (List.mem_append_right _ List.mem_cons_self)
      have nC4 : H3 C = none := I4.free
      have yC := I1.young hCle
      have I5 : Inv X pins σ H3 s4 := I1.call' (ch := fp) I4.os (show Un (frs X.stack) fp H1 H3 s2.heap s4.heap from I4.base) I4.hok I4.bare fun b hb => ⟨(hfp b hb).2.2.2.1, (hfp b hb).2.1, (hfp b hb).2.2.2.2.1, (hfp b hb).2.2.2.2.2⟩
      have I6 := I5.track (p := D) (o := .lst ys) pD.2.1 (Heap.get?_none_of_le (Nat.le_trans I1.sz hDle)) yD.lo yD.ce yD.pi ⟨sz, ks, e, rv, pD.1⟩
      have nC6 : (upd H3 D (.lst ys)) C = none := by rw [upd_ne hDC.symm]; exact nC4
      have I7 : Inv X (pins ++ [(C, oC)]) σ (upd H3 D (.lst ys)) s4 := I6.pins_of fun p hp => by
        rcases List.mem_append.mp hp with hp | hp
        · exact I6.pin p (List.mem_append_right _ hp)
        · obtain rfl := List.mem_singleton.mp hp
          exact ⟨hoC, nC6, yC.lo, yC.fs, fun v z => by rw [hdC] at z; cases z⟩
      exact fin D C oC ys H3 s4 ⟨m, fun h' e' => ⟨oC, esC, epC, e', hdC, rC⟩⟩ pD.2.1 nC6 yC I7 q
    · refine wpAny_bind (thn (T.item (cxComp X Nc scope cl s2 H1 C fp) rfl rfl rfl hc i _ s3 σ3 H3 _ I3 (stat fr3) st3 go) fun r s4 ⟨u, hr, h4⟩ => ?_)
      subst hr
      refine wpAny_bind (thn h4 fun _ s5 ⟨x, H5, I5, r5, y5, st5, fr5⟩ => ?_)
      have I5' := I5.pinned (stat fr5) (T.obj _ _ st5)
      refine wpAny_bind (wpAny_mono (hg cl s2 H1 C fp _ s5 σ3 H5 x u _ I5' r5 (step x H5 y5)) (fun _ s6 ⟨σ6, H6, I6, q6⟩ => ?_) fun _ _ z => False.elim z)
      refine wpAny_bind (wpAny_mono (hifs cl s2 H1 C fp _ s6 σ6 H6 _ I6 q6) (fun ok s7 ⟨H7, I7, q7⟩ => ?_) fun _ _ z => False.elim z)
      have fin : ∀ {ks' : List Value} {e' : Nat} {ys' : List V} {σ8 : St} {H8 : Hp} {s8 : Shared}, Inv (cxComp X Nc scope cl s2 H1 C fp) ([(D, seqObj "list" ks'.toArray e')] ++ pinsAt fp s5.heap) σ8 H8 s8 → Vals ys' ks' → N ys' σ8 H8 →
          ∃ m, m < n ∧ ∃ i ys ks e σ' H', Inv (cxComp X Nc scope cl s2 H1 C fp) [(D, seqObj "list" ks.toArray e)] σ' H' s8 ∧ Vals ys ks ∧ tn i s8.heap ∧ (∀ b ∈ fp, H' b = none) ∧ W i m ys σ' H' := fun {ks' e' ys' σ8 H8 s8} I8 rv' n8 => by
        obtain ⟨m', hm, w8⟩ := hN _ σ8 H8 n8
        refine ⟨m', hm, i + 1, ys', ks', e', σ8, H8, I8.unpinned, rv', T.keep _ _ _ st5 fun b hb o eo => (I8.pin (b, o) (List.mem_append_right _ (List.mem_append_right _ (mem_pinsAt hb eo)))).1, fun b hb => ?_, w8⟩
        obtain ⟨o, eo, d⟩ := T.obj _ _ st5 b hb
        exact (I8.pin (b, o) (List.mem_append_right _ (List.mem_append_right _ (mem_pinsAt hb eo)))).2.1
      cases ok with
      | false =>
        have q7 := iteF_of q7
        exact wpAny_pure ⟨rfl, fin I7 rv q7⟩
      | true =>
        have q7 := iteT_of q7
        refine wpAny_bind (wpAny_bind (wpAny_mono (he cl s2 H1 C fp _ s7 σ6 H7 _ I7 q7) (fun y s8 ⟨vy, H8, I8, ry, n8⟩ => ?_) fun _ _ z => False.elim z))
        have pD := I8.pin (D, seqObj "list" ks.toArray e) (List.mem_append_right _ (List.mem_append_left _ List.mem_cons_self))
        refine wpAny_bind (wpAny_list_append_plain (hsz := by rw [List.size_toArray, ← lk]; exact sz) ⟨e, pD.1⟩ fun h9 hl9 hs9 => ?_)
        refine wpAny_pure (wpAny_pure ⟨rfl, ?_⟩)
        obtain ⟨e9, hl9⟩ := hl9
        have ea : ks.toArray.push y = (ks ++ [y]).toArray := by simp
        rw [ea] at hl9
        refine fin (ks' := ks ++ [y]) (e' := e9) (ys' := ys ++ [vy]) ?_ (Vals.append rv (.cons ry .nil)) n8
        have ne9 : ∀ p ∈ pinsAt fp s5.heap, p.1 ≠ D := fun p hp z => fpD (z ▸ (of_pinsAt hp).1)
        have yDb : Young (cxComp X Nc scope cl s2 H1 C fp) (pinsAt fp s5.heap) D := ⟨hDC, fun hm => absurd (frN _ hm) (Nat.not_lt.mpr hDle), .inr hDle, fun x c ec => yD.ce x c (clX x c ec), fun p hp => ne9 p (by simpa [cxComp] using hp)⟩
        have I8a : Inv (cxComp X Nc scope cl s2 H1 C fp) (pinsAt fp s5.heap) σ6 H8 s8 := I8.pins_of fun p hp => I8.pin p (List.mem_append_right _ (List.mem_append_right _ hp))
        have I8b := I8a.record yDb pD.2.1 hs9
        exact I8b.pins_of fun p hp => by
          rcases List.mem_append.mp hp with hp | hp
          · obtain rfl := List.mem_singleton.mp hp
            exact ⟨hl9, pD.2.1, yDb.lo, yDb.fs, fun v z => by cases z⟩
          · exact I8b.pin p (List.mem_append_right _ hp)
  exact codeAny_compStart_list (loop _) (T.self _ 0 _ _ _ (T.keep _ _ _ t0 fun b _ o e => old b o e) (loop _))
theorem compOk_all {X : Cx} {scope : Scope} {Nc : List Str} {ix : List (Option Nat)} (h : compOk scope X.env.scope X.N Nc ix = true) : (∀ y ∈ scope.names, y.2 ≠ .cell) ∧ scope.kind = .function ∧ (∀ y ∈ scope.names, y.2 = .local → scope.names.lookup y.1 = some .local) ∧
    (∀ y ∈ scope.names, y.2 = .free → X.env.kindOf y.1 = some .cell ∨ X.env.kindOf y.1 = some .free) ∧ ix.length = Nc.length ∧
    ∀ (i : Nat) (x : Str) (j : Nat), Nc[i]? = some x → ix[i]? = some (some j) → X.N[j]? = some x ∧ Vis X.env.scope x ∧ (X.env.kindOf x = some .local → False) ∧ ((relabel scope X.env).names.lookup x = some .cell ∨ (relabel scope X.env).names.lookup x = some .free) := by
  unfold compOk at h
  simp only [Bool.and_eq_true, beq_iff_eq, List.all_eq_true, Bool.or_eq_true, bne_iff_ne] at h
  obtain ⟨⟨⟨⟨⟨h1, h2⟩, h3⟩, h4⟩, h5⟩, h6⟩ := h
  refine ⟨h1, h2, fun y hy e => ?_, fun y hy e => ?_, h5, fun i x j e1 e2 => ?_⟩
  · rcases h3 y hy with z | z
    · exact absurd e z
    · exact z
  · rcases h4 y hy with (z | z) | z
    · exact absurd e z
    · exact .inl z
    · exact .inr z
  · have q := h6 i (List.mem_range.mpr (List.getElem?_eq_some_iff.mp e1).1)
    rw [e1, e2] at q
    simp only [Bool.and_eq_true, beq_iff_eq, Bool.or_eq_true] at q
    obtain ⟨⟨q1, q2⟩, q3⟩ := q
    refine ⟨q1, ?_, fun z => ?_, relabel_free q3⟩
    · rcases q2 with z | z
      · exact .inr (.inl z)
      · exact .inr (.inr z)
    · have z' : X.env.scope.names.lookup x = some .local := z
      rcases q2 with y | y
      · rw [y] at z'; cases z'
      · rw [y] at z'; cases z'
theorem pe_comp {X : Cx} {elt tg iter : Expr} {ifs : List Expr} {scope : Scope} {pos : Pos} {Nc : List Str} {ix : List (Option Nat)} {wi : TI} {g : TG} {tc : TT} {te : TE} (hc : X.calm = true) (hok : compOk scope X.env.scope X.N Nc ix = true)
    (hi : PI X tg iter wi) (hg : ∀ cl s H C fp, PG (cxComp X Nc scope cl s H C fp) tg g) (hifs : ∀ cl s H C fp, PTs (cxComp X Nc scope cl s H C fp) ifs tc) (he : ∀ cl s H C fp, PE (cxComp X Nc scope cl s H C fp) elt te)
    (hs : ∀ x, foldedSetIterable iter X.env x = pure x := by intro _; rfl) : PE X (.ListComp elt [⟨tg, iter, ifs, 0⟩] scope pos) (tComp wi ix g tc te) := by
  intro pins s σ H Q I h
  obtain ⟨h1, h2, h3, h4, h5, h6⟩ := compOk_all hok
  rw [eval_ListComp]
  refine comp_core (Q' := EP X pins σ Q) hc h1 h2 h3 h4 (fun y k e hk => relabel_of h1 e hk) h5 h6 hi hg hifs he hs I h fun D C oC ys H3 s4 hN nD nC yC I4 q => ?_
  have pC := I4.pin (C, oC) (List.mem_append_right _ (List.mem_append_right _ List.mem_cons_self))
  obtain ⟨m, hm⟩ := hN
  exact ⟨m, hm _ pC.1, fun h' hsb => ⟨.ref D, _, I4.unpinned.record yC nC hsb, rfl, q D nD⟩⟩
end L2
set_option Elab.async false
set_option linter.all false
set_option maxRecDepth 100000
namespace L2
open PySem PySem.Spec PyProof.Rows
section
variable {X : Cx}
theorem lst_walk {pins : List (Addr × Obj)} {σ : St} {H : Hp} {s : Shared} {a : Addr} {its : List Value} (I : Inv X pins σ H s) (tp : s.heap.IsList a its.toArray) (hc : X.calm = true) {Q : Value → Shared → Prop}
    (q : ∀ s2 : Shared, s2 = { s with heap := s.heap.push { cls := .type "list_iterator", data := .fields #[.ref a, .int 0 0] } } → Walks X.prog X.w X.A.in1 s.heap.objs.size [s.heap.objs.size, a] [s.heap.objs.size] its.toArray.size (fun i v => its.toArray[i]? = some v) (fun i h => h.IsListIter s.heap.objs.size a i ∧ h.IsList a its.toArray) →
      (s2.heap.IsListIter s.heap.objs.size a 0 ∧ s2.heap.IsList a its.toArray) → (∀ b ∈ [s.heap.objs.size, a], b < s2.heap.objs.size) → Q (.ref s.heap.objs.size) s2) : wpAny (model X.prog X.w) X.A.in1 (pyIter (.ref a)) Q X.xe s := by
  have hlt : a < s.heap.objs.size := by obtain ⟨_, e, _⟩ := tp; exact Heap.lt_size e
  refine wpAny_pyIter_list tp (q _ rfl (Walks.list (by exact I.ok.hd hc) _ _ (Nat.ne_of_lt hlt) _) ⟨⟨_, Heap.get?_push_size _ rfl, rfl, rfl⟩, ?_⟩ fun b hb => ?_)
  · obtain ⟨o, e, r⟩ := tp
    exact ⟨o, Heap.get?_push_of_some _ e, r⟩
  · show b < (s.heap.push _).objs.size
    rw [Heap.size_push]
    rcases List.mem_cons.mp hb with rfl | hb
    · exact Nat.lt_succ_self _
    · rw [List.mem_singleton.mp hb]
      exact Nat.lt_succ_of_lt hlt
theorem bools_of {bs : List Bool} {its : List Value} (r : Vals (bs.map V.bl) its) : ∀ (i : Nat) (v : Value), its.toArray[i]? = some v → v = Value.bool (bs.getD i false) := by
  intro i v e
  rw [List.getElem?_toArray] at e
  have hl := r.length
  have hi : i < its.length := (List.getElem?_eq_some_iff.mp e).1
  rw [List.length_map] at hl
  have hx : (bs.map V.bl)[i]? = some (.bl (bs.getD i false)) := by
    rw [List.getElem?_map, List.getElem?_eq_getElem (by omega)]
    simp [List.getD, show i < bs.length by omega]
  obtain ⟨u, hu, ru⟩ := r.get hx
  rw [e] at hu
  cases hu
  exact ru
theorem any_range (bs : List Bool) : (List.range bs.length).any (fun i => bs.getD i false) = bs.any id := by
  rw [Bool.eq_iff_iff, List.any_eq_true, List.any_eq_true]
  constructor
  · rintro ⟨i, hi, h⟩
    have hi := List.mem_range.mp hi
    rw [getD_at hi] at h
    exact ⟨_, List.getElem_mem hi, h⟩
  · rintro ⟨b, hb, h⟩
    obtain ⟨i, hi, rfl⟩ := List.mem_iff_getElem.mp hb
    exact ⟨i, List.mem_range.mpr hi, by rw [getD_at hi]; exact h⟩
theorem call_anyL (hc : X.calm = true) : CallR X (.builtin "any") (fun xs H Q => ∃ (a : Addr) (bs : List Bool), xs = [.ref a] ∧ SqL X.K H a (bs.map V.bl) ∧ Q (.bl (bs.any id)) H) := by
  intro pins s σ H xs us Q I r h
  obtain ⟨a, bs, rfl, hq, q⟩ := h
  obtain ⟨u, rfl, ru⟩ := vals1 r
  cases ru
  obtain ⟨its, rv, tp, hz⟩ := I.list hq
  have hl := rv.length
  rw [List.length_map] at hl
  refine call_any_walk (lst_walk I tp.isList hc fun s2 e W st hfp => ?_)
  subst e
  refine ⟨_, _, _, _, _, _, fun i => bs.getD i false, rfl, W, st, fun i v A' Q' E' hP hQ => ?_, fun h' tk hk => ?_⟩
  · have := bools_of rv i v hP
    subst this
    exact wpAny_truthy_bool hQ
  · refine ⟨.bl _, H, I.kept (t' := tk) fun b o e => hk b o (fun m => ?_) (Heap.get?_push_of_some _ e), ?_, q⟩
    · have := Heap.lt_size e
      rw [List.mem_singleton.mp m] at this
      exact Nat.lt_irrefl _ this
    · show Value.bool _ = Value.bool _
      rw [List.size_toArray, ← hl, any_range]
end
end L2
set_option Elab.async false
set_option linter.all false
set_option maxRecDepth 100000
namespace L2
open PySem PySem.Spec PyProof.Rows
inductive EqR (K : PySem.W.Frag) (H : Hp) : Nat → V → V → Bool → Prop where
  | flat {n : Nat} {x y : V} (fx : flatV x = true) (fy : flatV y = true) : EqR K H n x y (eqV x y)
  | tups {n : Nat} {a b : Addr} {xs ys : List V} {e : Nat → Bool} (ha : SqT K H a xs) (hb : SqT K H b ys) (he : ∀ j, j < xs.length → j < ys.length → EqR K H n (xs.getD j .non) (ys.getD j .non) (e j)) :
      EqR K H (n + 1) (.ref a) (.ref b) ((List.range (min xs.length ys.length)).all e && xs.length == ys.length)
  | lsts {n : Nat} {a b : Addr} {xs ys : List V} {e : Nat → Bool} (ha : SqL K H a xs) (hb : SqL K H b ys) (hl : xs.length = ys.length) (he : ∀ j, j < xs.length → EqR K H n (xs.getD j .non) (ys.getD j .non) (e j)) :
      EqR K H (n + 1) (.ref a) (.ref b) ((List.range xs.length).all e)
  | lens {n : Nat} {a b : Addr} {xs ys : List V} (ha : SqL K H a xs) (hb : SqL K H b ys) (hl : xs.length ≠ ys.length) : EqR K H (n + 1) (.ref a) (.ref b) false
theorem eqV_refl : ∀ {x : V}, flatV x = true → eqV x x = true
  | .non, _ => rfl
  | .bl b, _ => beq_self_eq_true b
  | .int i, _ => beq_self_eq_true i
  | .str s, _ => beq_self_eq_true s
section
variable {X : Cx} {pins : List (Addr × Obj)} {σ : St} {H : Hp} {s : Shared}
theorem EqR.refl (I : Inv X pins σ H s) {n : Nat} {x y : V} {b : Bool} (h : EqR X.K H n x y b) : x = y → b = true := by
  induction h with
  | flat fx fy => intro e; subst e; exact eqV_refl fx
  | @tups n a b xs ys e ha hb he ih =>
    intro z
    cases z
    have := I.tuple_inj ha hb
    subst this
    rw [beq_self_eq_true, Bool.and_true, List.all_eq_true]
    intro j hj
    have hj := List.mem_range.mp hj
    exact ih j (by omega) (by omega) rfl
  | @lsts n a b xs ys e ha hb hl he ih =>
    intro z
    cases z
    have := I.list_inj ha hb
    subst this
    rw [List.all_eq_true]
    intro j hj
    exact ih j (List.mem_range.mp hj) rfl
  | @lens n a b xs ys ha hb hl =>
    intro z
    cases z
    exact absurd (by rw [I.list_inj ha hb]) hl
theorem EqR.at (I : Inv X pins σ H s) {n : Nat} {x y : V} {b : Bool} (h : EqR X.K H n x y b) : ∀ {A : Around} {u v : Value}, RelV x u → RelV y v → A.units + n < cLine → SeqAt.EqAt A s u v b := by
  induction h with
  | flat fx fy => intro A u v ru rv _; exact eqAt_V ru rv fx fy
  | @tups n a b xs ys e ha hb he ih =>
    intro A u v ru rv hu
    cases ru
    cases rv
    by_cases hab : a = b
    · have := EqR.refl I (EqR.tups (n := n) ha hb he) (by rw [hab])
      rw [this, hab]
      exact SeqAt.EqAt.same _
    · obtain ⟨i1, r1, p1, z1⟩ := I.tuple ha
      obtain ⟨i2, r2, p2, z2⟩ := I.tuple hb
      have l1 := r1.length
      have l2 := r2.length
      have := SeqAt.RcAt.tuples (A := A) (e := e) (show s.heap.IsTuple a i1.toArray from p1) (show s.heap.IsTuple b i2.toArray from p2) (by omega) fun j h1 h2 => by
        have h1' : j < i1.length := by simpa using h1
        have h2' : j < i2.length := by simpa using h2
        have q := ih j (by omega) (by omega) (A := A.in1) (val_at r1 h1') (val_at r2 h2') (by show A.units + 1 + n < cLine; omega)
        simpa using q
      rw [List.size_toArray, List.size_toArray, ← l1, ← l2] at this
      exact SeqAt.EqAt.of_refs hab this
  | @lsts n a b xs ys e ha hb hl he ih =>
    intro A u v ru rv hu
    cases ru
    cases rv
    by_cases hab : a = b
    · have := EqR.refl I (EqR.lsts (n := n) ha hb hl he) (by rw [hab])
      rw [this, hab]
      exact SeqAt.EqAt.same _
    · obtain ⟨i1, r1, p1, z1⟩ := I.list ha
      obtain ⟨i2, r2, p2, z2⟩ := I.list hb
      have l1 := r1.length
      have l2 := r2.length
      have := SeqAt.RcAt.lists (A := A) (e := e) p1.isList p2.isList (by simp; omega) (by omega) fun j h1 h2 => by
        have h1' : j < i1.length := by simpa using h1
        have h2' : j < i2.length := by simpa using h2
        have q := ih j (by omega) (A := A.in1) (val_at r1 h1') (val_at r2 h2') (by show A.units + 1 + n < cLine; omega)
        simpa using q
      rw [List.size_toArray, ← l1] at this
      exact SeqAt.EqAt.of_refs hab this
  | @lens n a b xs ys ha hb hl =>
    intro A u v ru rv hu
    cases ru
    cases rv
    obtain ⟨i1, r1, p1, z1⟩ := I.list ha
    obtain ⟨i2, r2, p2, z2⟩ := I.list hb
    have l1 := r1.length
    have l2 := r2.length
    have hab : a ≠ b := fun z => by subst z; exact hl (by rw [I.list_inj ha hb])
    exact SeqAt.EqAt.of_refs hab (SeqAt.RcAt.lists_lengths p1.isList p2.isList (by simp; omega) (by omega))
def rEqR (K : PySem.W.Frag) (neg : Bool) : R2 := fun x y H Q => ∃ (a c : Addr) (n : Nat) (b : Bool), x = .ref a ∧ y = .ref c ∧ EqR K H n x y b ∧ n ≤ 50 ∧ Q (.bl (if neg then !b else b)) H
theorem op_eqR (hu : X.A.units + 64 < cLine) : OpR X (compareOp .Eq) (rEqR X.K false) := by
  intro pins s σ H x y v u Q I rx ry h
  obtain ⟨a, c, n, b, rfl, rfl, e, hn, q⟩ := h
  cases rx
  cases ry
  have fin : ∀ {k : Bool}, k = b → EP X pins σ Q (.bool k) s := fun z => ⟨.bl b, H, I, by rw [z]; rfl, q⟩
  cases e with
  | flat fx fy => exact absurd (show false = true from fx) Bool.false_ne_true
  | @tups n _ _ xs ys e ha hb he =>
    obtain ⟨i1, r1, p1, z1⟩ := I.tuple ha
    obtain ⟨i2, r2, p2, z2⟩ := I.tuple hb
    have l1 := r1.length
    have l2 := r2.length
    refine SeqAt.eq_tupleAt (e := e) (show s.heap.IsTuple a i1.toArray from p1) (show s.heap.IsTuple c i2.toArray from p2) (by omega) (fun j h1 h2 => ?_) (fin ?_)
    · have h1' : j < i1.length := by simpa using h1
      have h2' : j < i2.length := by simpa using h2
      have q := (he j (by omega) (by omega)).at I (A := X.A.in1) (val_at r1 h1') (val_at r2 h2') (by show X.A.units + 1 + n < cLine; omega)
      simpa using q
    · rw [List.size_toArray, List.size_toArray, ← l1, ← l2]
  | @lsts n _ _ xs ys e ha hb hl he =>
    obtain ⟨i1, r1, p1, z1⟩ := I.list ha
    obtain ⟨i2, r2, p2, z2⟩ := I.list hb
    have l1 := r1.length
    have l2 := r2.length
    refine SeqAt.eq_listAt (e := e) p1.isList p2.isList (by simp; omega) (by omega) (fun j h1 h2 => ?_) (fin ?_)
    · have h1' : j < i1.length := by simpa using h1
      have h2' : j < i2.length := by simpa using h2
      have q := (he j (by omega)).at I (A := X.A.in1) (val_at r1 h1') (val_at r2 h2') (by show X.A.units + 1 + n < cLine; omega)
      simpa using q
    · rw [List.size_toArray, ← l1]
  | @lens n _ _ xs ys ha hb hl =>
    obtain ⟨i1, r1, p1, z1⟩ := I.list ha
    obtain ⟨i2, r2, p2, z2⟩ := I.list hb
    have l1 := r1.length
    have l2 := r2.length
    exact SeqAt.eq_list_lengthsAt p1.isList p2.isList (by simp; omega) (by omega) (fin rfl)
theorem op_neR (hu : X.A.units + 64 < cLine) : OpR X (compareOp .NotEq) (rEqR X.K true) := by
  intro pins s σ H x y v u Q I rx ry h
  obtain ⟨a, c, n, b, rfl, rfl, e, hn, q⟩ := h
  cases rx
  cases ry
  have fin : ∀ {k : Bool}, k = b → EP X pins σ Q (.bool (!k)) s := fun z => ⟨.bl (!b), H, I, by rw [z]; rfl, q⟩
  cases e with
  | flat fx fy => exact absurd (show false = true from fx) Bool.false_ne_true
  | @tups n _ _ xs ys e ha hb he =>
    obtain ⟨i1, r1, p1, z1⟩ := I.tuple ha
    obtain ⟨i2, r2, p2, z2⟩ := I.tuple hb
    have l1 := r1.length
    have l2 := r2.length
    refine SeqAt.RcNeAt.tuples (e := e) (show s.heap.IsTuple a i1.toArray from p1) (show s.heap.IsTuple c i2.toArray from p2) (by omega) (fun j h1 h2 => ?_) _ _ _ _ (fin ?_)
    · have h1' : j < i1.length := by simpa using h1
      have h2' : j < i2.length := by simpa using h2
      have q := (he j (by omega) (by omega)).at I (A := X.A.in1) (val_at r1 h1') (val_at r2 h2') (by show X.A.units + 1 + n < cLine; omega)
      simpa using q
    · rw [List.size_toArray, List.size_toArray, ← l1, ← l2]
  | @lsts n _ _ xs ys e ha hb hl he =>
    obtain ⟨i1, r1, p1, z1⟩ := I.list ha
    obtain ⟨i2, r2, p2, z2⟩ := I.list hb
    have l1 := r1.length
    have l2 := r2.length
    refine SeqAt.RcNeAt.lists (e := e) p1.isList p2.isList (by simp; omega) (by omega) (fun j h1 h2 => ?_) _ _ _ _ (fin ?_)
    · have h1' : j < i1.length := by simpa using h1
      have h2' : j < i2.length := by simpa using h2
      have q := (he j (by omega)).at I (A := X.A.in1) (val_at r1 h1') (val_at r2 h2') (by show X.A.units + 1 + n < cLine; omega)
      simpa using q
    · rw [List.size_toArray, ← l1]
  | @lens n _ _ xs ys ha hb hl =>
    obtain ⟨i1, r1, p1, z1⟩ := I.list ha
    obtain ⟨i2, r2, p2, z2⟩ := I.list hb
    have l1 := r1.length
    have l2 := r2.length
    exact SeqAt.RcNeAt.lists_lengths p1.isList p2.isList (by simp; omega) (by omega) _ _ _ _ (fin (k := false) rfl)
end
end L2
set_option Elab.async false
set_option linter.all false
set_option maxRecDepth 100000
namespace L2
open PySem PySem.Spec PyProof.Rows PySem.W
end L2
set_option Elab.async false
set_option linter.all false
set_option maxRecDepth 100000
namespace L2
open PySem PySem.Spec PyProof.Rows
section
variable {g : TG} {tc : TT} {te : TE} {σ0 : St} {H0 : Hp} {R : List V → Hp → Prop} {K : PySem.W.Frag} {a : Addr} {xs : List V}
theorem cmp_gen {J : It} {n : Nat} (Pv : Nat → List V → St → Hp → Prop) (h0 : Pv 0 [] σ0 H0) (hz : ∀ i ys σ H, i ≤ n → Pv i ys σ H → ys.length ≤ sizeLine) (hst : ∀ ys σ H, Pv n ys σ H → J.stop n H ∧ R ys H)
    (hgo : ∀ i ys σ H, i < n → Pv i ys σ H → J.go i H ∧ ∀ x H2, J.yld i H x H2 → g x σ H2 fun σ2 H3 => tc σ2 H3 fun b H4 => if b = true then te σ2 H4 fun y H5 => Pv (i + 1) (ys ++ [y]) σ2 H5 else Pv (i + 1) ys σ2 H4) :
    ∃ W : Nat → Nat → List V → St → Hp → Prop, (∃ m, W 0 m [] σ0 H0) ∧ ∀ i m ys σ' H', W i m ys σ' H' →
      (J.stop i H' ∧ ys.length ≤ sizeLine ∧ R ys H') ∨
      (J.go i H' ∧ ys.length ≤ sizeLine ∧ ∃ N : List V → St → Hp → Prop, (∀ ys' σ2 H2, N ys' σ2 H2 → ∃ m', m' < m ∧ W (i + 1) m' ys' σ2 H2) ∧
        ∀ x H2, J.yld i H' x H2 → g x σ' H2 fun σ2 H3 => tc σ2 H3 fun b H4 => if b = true then te σ2 H4 fun y H5 => N (ys ++ [y]) σ2 H5 else N ys σ2 H4) := by
  refine ⟨fun i m ys σ H => m = n - i ∧ i ≤ n ∧ Pv i ys σ H, ⟨n, by simp, Nat.zero_le _, h0⟩, ?_⟩
  rintro i m ys σ H ⟨rfl, hi, p⟩
  by_cases hlt : i < n
  · obtain ⟨go, turn⟩ := hgo i ys σ H hlt p
    exact .inr ⟨go, hz i ys σ H hi p, Pv (i + 1), fun ys' σ' H' p' => ⟨n - (i + 1), by omega, rfl, hlt, p'⟩, turn⟩
  · have e : i = n := by omega
    subst e
    obtain ⟨st, r⟩ := hst ys σ H p
    exact .inl ⟨st, hz i ys σ H hi p, r⟩
theorem cmp_list (Pv : Nat → List V → St → Hp → Prop) (h0 : Pv 0 [] σ0 H0) (hz : ∀ i ys σ H, i ≤ xs.length → Pv i ys σ H → ys.length ≤ sizeLine ∧ SqL K H a xs) (hst : ∀ ys σ H, Pv xs.length ys σ H → R ys H)
    (hgo : ∀ i x ys σ H, xs[i]? = some x → Pv i ys σ H → g x σ H fun σ2 H3 => tc σ2 H3 fun b H4 => if b = true then te σ2 H4 fun y H5 => Pv (i + 1) (ys ++ [y]) σ2 H5 else Pv (i + 1) ys σ2 H4) :
    ∃ W : Nat → Nat → List V → St → Hp → Prop, (∃ m, W 0 m [] σ0 H0) ∧ ∀ i m ys σ' H', W i m ys σ' H' →
      ((Itl K a).stop i H' ∧ ys.length ≤ sizeLine ∧ R ys H') ∨
      ((Itl K a).go i H' ∧ ys.length ≤ sizeLine ∧ ∃ N : List V → St → Hp → Prop, (∀ ys' σ2 H2, N ys' σ2 H2 → ∃ m', m' < m ∧ W (i + 1) m' ys' σ2 H2) ∧
        ∀ x H2, (Itl K a).yld i H' x H2 → g x σ' H2 fun σ2 H3 => tc σ2 H3 fun b H4 => if b = true then te σ2 H4 fun y H5 => N (ys ++ [y]) σ2 H5 else N ys σ2 H4) :=
  cmp_gen (n := xs.length) Pv h0 (fun i ys σ H hi p => (hz i ys σ H hi p).1) (fun ys σ H p => ⟨⟨xs, (hz _ ys σ H (Nat.le_refl _) p).2, Nat.le_refl _⟩, hst ys σ H p⟩)
    fun i ys σ H hi p => ⟨⟨xs, xs[i], (hz i ys σ H (Nat.le_of_lt hi) p).2, by simp [hi]⟩, fun x H2 y => by
      obtain ⟨e, y⟩ := y
      subst e
      exact hgo i x ys σ _ (y xs (hz i ys σ _ (Nat.le_of_lt hi) p).2) p⟩
theorem cmp_tup (Pv : Nat → List V → St → Hp → Prop) (h0 : Pv 0 [] σ0 H0) (hz : ∀ i ys σ H, i ≤ xs.length → Pv i ys σ H → ys.length ≤ sizeLine ∧ SqT K H a xs) (hst : ∀ ys σ H, Pv xs.length ys σ H → R ys H)
    (hgo : ∀ i x ys σ H, xs[i]? = some x → Pv i ys σ H → g x σ H fun σ2 H3 => tc σ2 H3 fun b H4 => if b = true then te σ2 H4 fun y H5 => Pv (i + 1) (ys ++ [y]) σ2 H5 else Pv (i + 1) ys σ2 H4) :
    ∃ W : Nat → Nat → List V → St → Hp → Prop, (∃ m, W 0 m [] σ0 H0) ∧ ∀ i m ys σ' H', W i m ys σ' H' →
      ((Itt K a).stop i H' ∧ ys.length ≤ sizeLine ∧ R ys H') ∨
      ((Itt K a).go i H' ∧ ys.length ≤ sizeLine ∧ ∃ N : List V → St → Hp → Prop, (∀ ys' σ2 H2, N ys' σ2 H2 → ∃ m', m' < m ∧ W (i + 1) m' ys' σ2 H2) ∧
        ∀ x H2, (Itt K a).yld i H' x H2 → g x σ' H2 fun σ2 H3 => tc σ2 H3 fun b H4 => if b = true then te σ2 H4 fun y H5 => N (ys ++ [y]) σ2 H5 else N ys σ2 H4) :=
  cmp_gen (n := xs.length) Pv h0 (fun i ys σ H hi p => (hz i ys σ H hi p).1) (fun ys σ H p => ⟨⟨xs, (hz _ ys σ H (Nat.le_refl _) p).2, Nat.le_refl _⟩, hst ys σ H p⟩)
    fun i ys σ H hi p => ⟨⟨xs, xs[i], (hz i ys σ H (Nat.le_of_lt hi) p).2, by simp [hi]⟩, fun x H2 y => by
      obtain ⟨e, y⟩ := y
      subst e
      exact hgo i x ys σ _ (y xs (hz i ys σ _ (Nat.le_of_lt hi) p).2) p⟩
end
end L2
set_option Elab.async false
set_option linter.all false
set_option maxRecDepth 100000
namespace L2
open PySem PySem.Spec PyProof.Rows PySem.W
section
variable {X : Cx} {pins : List (Addr × Obj)} {σ : St} {H : Hp} {s : Shared}
end
end L2
set_option Elab.async false
set_option linter.all false
set_option maxRecDepth 100000
namespace L2
open PySem PySem.Spec PyProof.Rows PySem.W
def txt (l : List Nat) : Str := ⟨l.toArray⟩
theorem txt_len (l : List Nat) : (txt l).length = l.length := by simp [txt, Str.length]
section
variable {X : Cx}
theorem strs_vals : ∀ {zs : List Str} {us : List Value}, Vals (zs.map V.str) us → StrsAre us zs
  | [], _, .nil => .nil
  | z :: zs, _, .cons ⟨t, e⟩ r => by
    subst e
    exact .cons z t (strs_vals r)
def rIxC : R2 := fun x y H Q => ∃ (l : List Nat) (i : Int) (c : Nat), x = .str (txt l) ∧ y = .int i ∧ l.length ≤ 1000000 ∧ atI l i = some c ∧ Q (.str (txt [c])) H
theorem ix_sign : IxR X rIxC := by
  intro value slice pins s σ H x y v u Q I rx ry h hs
  obtain ⟨l, i, c, rfl, rfl, hl, hc, q⟩ := h
  exact ix_str value slice pins s σ H _ _ v u Q I rx ry ⟨txt l, i, c, rfl, rfl, by rw [txt_len]; exact Nat.le_trans hl (by decide), by simpa [txt] using hc, q⟩ hs
end
end L2
set_option Elab.async false
set_option linter.all false
set_option maxRecDepth 100000
namespace L2
open PySem PySem.Spec PyProof.Rows PySem.W
section
variable {X : Cx} {K : Frag}
theorem ix_tupK (hK : X.K = K) : IxR X (rIxT K) := by subst hK; exact ix_tup
theorem pg_tupK {es : List Expr} {k : Nat} {t : TGs} {n : Nat} {pos : Pos} (hK : X.K = K) (hc : X.calm = true) (h : PGs X es t)
    (hn : (assignEach es X.env).length = n := by rfl) (hs : (assignEach es X.env).findIdx? (·.1) = none := by rfl) : PG X (.Tuple es k pos) (gTup K n t) := by
  subst hK
  exact pg_tup hc h hn hs
end
end L2
set_option Elab.async false
set_option linter.all false
namespace Lin
abbrev W := List Nat
def glue : List W → W
  | [] => []
  | [a] => a
  | a :: b :: r => a ++ 32 :: glue (b :: r)
section
variable {ws : List W} {wide : Int}
end
end Lin
set_option Elab.async false
set_option linter.all false
set_option maxRecDepth 100000
namespace L2
open PySem PySem.Spec PyProof.Rows PySem.W
theorem txt_app (a b : List Nat) : txt a ++ txt b = txt (a ++ b) := by
  refine Str.ext' ?_
  rw [Str.cps_append]
  simp [txt]
section
variable {X : Cx} {tg : Expr}
theorem join_glue : ∀ (ls : List (List Nat)), Str.join (txt [32]) (ls.map txt) = txt (Lin.glue ls)
  | [] => rfl
  | [a] => rfl
  | a :: b :: r => by
    have ih := join_glue (b :: r)
    show txt a ++ txt [32] ++ Str.join (txt [32]) ((b :: r).map txt) = _
    rw [ih, txt_app, txt_app]
    simp [Lin.glue]
theorem mt_joinB : MtR X "str.join" (fun x vs H Q => ∃ (a : Addr) (ls : List (List Nat)), x = .str " " ∧ vs = [.ref a] ∧ SqL X.K H a (ls.map fun l => V.str (txt l)) ∧ (ls.map List.length).sum + ls.length ≤ 1000000 ∧ Q (.str (txt (Lin.glue ls))) H) := by
  intro pins s σ H x xs v us Q I rx rxs h
  obtain ⟨a, ls, rfl, rfl, hq, hn, q⟩ := h
  obtain ⟨t, rfl⟩ := rx
  obtain ⟨u, rfl, ru⟩ := vals1 rxs
  cases ru
  obtain ⟨its, rv, tp, hz⟩ := I.list hq
  have rv' : Vals ((ls.map txt).map V.str) its := by rw [List.map_map]; exact rv
  refine join_list (ys := ls.map txt) tp.isList (by simpa using strs_vals rv') ?_ fun t' k => ⟨.str _, H, I.tok k, ⟨t', ?_⟩, q⟩
  · rw [List.map_map]
    have e1 : (ls.map ((fun x => x.length) ∘ txt)) = ls.map List.length := List.map_congr_left fun l _ => txt_len l
    rw [e1]
    have e2 : (" " : Str).length = 1 := rfl
    rw [e2, List.length_map]
    omega
  · show Value.str (Txt.join " " (ls.map txt)) t' = _
    have e : Txt.join " " (ls.map txt) = txt (Lin.glue ls) := by
      unfold Txt.join
      rw [StrLaws.glued_eq_join]
      exact join_glue ls
    rw [e]
end
section
variable {g : TG} {tc : TT} {te : TE} {σ0 : St} {H0 : Hp} {R : List V → Hp → Prop} {l : List Nat}
end
section
variable {σ : St} {H : Hp} {ta tb : TE}
theorem while_n {c : TT} {tb : TS} {D : Ends} (Pv : Nat → St → Hp → Prop) (m0 : Nat) (h0 : Pv m0 σ H)
    (hs : ∀ m σ H, Pv m σ H → ∃ (p : Prop) (_ : Decidable p), Tst c σ H p ∧ (p → tb { D with nx := fun σ' H' => ∃ m', m' < m ∧ Pv m' σ' H', ct := fun σ' H' => ∃ m', m' < m ∧ Pv m' σ' H', bk := D.nx } σ H) ∧ (¬ p → D.nx σ H)) : tWhile c tb D σ H := by
  refine ⟨Pv, ⟨m0, h0⟩, fun m σ H p => ?_⟩
  obtain ⟨q, dq, t, h1, h2⟩ := hs m σ H p
  refine t _ ?_
  by_cases z : q
  · rw [decide_eq_true z, if_pos rfl]
    exact ⟨_, fun _ _ y => y, h1 z⟩
  · rw [decide_eq_false z, if_neg Bool.false_ne_true]
    exact h2 z
theorem seq_key {t u : TS} {D : Ends} (R : St → Hp → Prop) (h3 : ∀ σ H, R σ H → u D σ H) (h : (∀ σ H, R σ H → u D σ H) → t { D with nx := u D } σ H) : tSeq t u D σ H := h h3
theorem run_gname {i : Nat} {v : V} {Q : St → Hp → Prop} (h : Q (σ.set i (some v)) H) : gName i v σ H Q := h
end
end L2
set_option Elab.async false
set_option linter.all false
set_option maxRecDepth 100000
namespace Tre
open PySem L2
inductive T where
  | non | bl (b : Bool) | int (i : Int) | str (x : Str) | tup (ts : List T) | lst | dic
mutual
def sz : T → Nat
  | .tup ts => 1 + szL ts
  | .non => 1
  | .bl _ => 1
  | .int _ => 1
  | .str _ => 1
  | .lst => 1
  | .dic => 1
def szL : List T → Nat
  | [] => 0
  | t :: r => sz t + szL r
end
theorem sz_pos : ∀ t : T, 0 < sz t
  | .tup ts => by unfold sz; omega
  | .non => by unfold sz; omega
  | .bl _ => by unfold sz; omega
  | .int _ => by unfold sz; omega
  | .str _ => by unfold sz; omega
  | .lst => by unfold sz; omega
  | .dic => by unfold sz; omega
theorem szL_app : ∀ (a b : List T), szL (a ++ b) = szL a + szL b
  | [], b => by show szL b = szL [] + szL b; unfold szL; omega
  | t :: a, b => by
    show sz t + szL (a ++ b) = szL (t :: a) + szL b
    rw [szL_app a b, szL]
    omega
theorem sz_node (k : Str) (ps : List T) : sz (.tup [.str k, .tup ps]) = 3 + szL ps := by
  simp only [sz, szL]
  omega
def bar : Str := "|"
def dash : Str := "-"
def isK (k : Str) : Prop := k = bar ∨ k = dash
def HasK (t : T) (k : Str) : Prop := ∃ q, t = .tup [.str k, q]
mutual
inductive Good : T → List Int → Prop where
  | leaf (i : Int) : Good (.int i) [i]
  | node {k : Str} {ps : List T} {nss : List (List Int)} (hk : isK k) (h2 : 2 ≤ ps.length) (hn : ∀ p ∈ ps, ¬ HasK p k) (h : GoodL ps nss) : Good (.tup [.str k, .tup ps]) nss.flatten
inductive GoodL : List T → List (List Int) → Prop where
  | nil : GoodL [] []
  | cons {t : T} {ns : List Int} {ts : List T} {nss : List (List Int)} (h : Good t ns) (r : GoodL ts nss) : GoodL (t :: ts) (ns :: nss)
end
theorem GoodL.app : ∀ {a b : List T} {x y : List (List Int)}, GoodL a x → GoodL b y → GoodL (a ++ b) (x ++ y)
  | _, _, _, _, .nil, s => s
  | _, _, _, _, .cons h r, s => .cons h (GoodL.app r s)
theorem GoodL.split : ∀ {a b : List T} {z : List (List Int)}, GoodL (a ++ b) z → ∃ x y, z = x ++ y ∧ GoodL a x ∧ GoodL b y
  | [], b, z, h => ⟨[], z, rfl, .nil, h⟩
  | t :: a, b, _, .cons h r => by
    obtain ⟨x, y, e, h1, h2⟩ := GoodL.split (a := a) (b := b) r
    exact ⟨_ :: x, y, by rw [e]; rfl, .cons h h1, h2⟩
theorem GoodL.one {t : T} {z : List (List Int)} (h : GoodL [t] z) : ∃ ns, z = [ns] ∧ Good t ns := by
  cases h with
  | cons h r =>
    cases r
    exact ⟨_, rfl, h⟩
mutual
theorem Good.ne : ∀ {t : T} {ns : List Int}, Good t ns → 0 < ns.length
  | _, _, .leaf i => Nat.succ_pos _
  | _, _, .node (ps := ps) (nss := nss) hk h2 hn h => Nat.lt_of_lt_of_le (by omega) (GoodL.le h)
theorem GoodL.le : ∀ {ts : List T} {nss : List (List Int)}, GoodL ts nss → ts.length ≤ nss.flatten.length
  | _, _, .nil => Nat.le_refl _
  | _, _, .cons h r => by
    rw [List.flatten_cons, List.length_append, List.length_cons]
    have := h.ne
    have := GoodL.le r
    omega
end
mutual
theorem Good.uniq : ∀ {t : T} {a b : List Int}, Good t a → Good t b → a = b
  | _, _, _, .leaf i, h' => by cases h'; rfl
  | _, _, _, .node _ _ _ h, h' => by
    cases h' with
    | node _ _ _ h2 => rw [GoodL.uniq h h2]
theorem GoodL.uniq : ∀ {t : List T} {a b : List (List Int)}, GoodL t a → GoodL t b → a = b
  | _, _, _, .nil, h' => by cases h'; rfl
  | _, _, _, .cons h r, h' => by
    cases h' with
    | cons h2 r2 => rw [Good.uniq h h2, GoodL.uniq r r2]
end
structure Rel (t : T) (ahead : List T) (ns : List Int) : Prop where
  fw : ∀ x, Good t x → ∃ z, GoodL ahead z ∧ x.Perm (ns ++ z.flatten)
  bw : ∀ z, GoodL ahead z → ∃ x, Good t x ∧ x.Perm (ns ++ z.flatten)
theorem Rel.start (t : T) : Rel t [t] [] :=
  ⟨fun x h => ⟨[x], .cons h .nil, by simp⟩, fun z h => by
    obtain ⟨ns, rfl, h2⟩ := h.one
    exact ⟨ns, h2, by simp⟩⟩
theorem Rel.leaf {t : T} {a : List T} {ns : List Int} {i : Int} (R : Rel t (a ++ [.int i]) ns) : Rel t a (ns ++ [i]) := by
  refine ⟨fun x h => ?_, fun z h => ?_⟩
  · obtain ⟨z, hz, p⟩ := R.fw x h
    obtain ⟨u, v, rfl, h1, h2⟩ := hz.split
    obtain ⟨m, rfl, h3⟩ := h2.one
    cases h3
    refine ⟨u, h1, p.trans ?_⟩
    rw [List.flatten_append, List.append_assoc]
    refine List.Perm.append_left ns ?_
    show (u.flatten ++ ([i] ++ [])).Perm ([i] ++ u.flatten)
    rw [List.append_nil]
    exact List.perm_append_comm
  · obtain ⟨x, h1, p⟩ := R.bw (z ++ [[i]]) (h.app (.cons (.leaf i) .nil))
    refine ⟨x, h1, p.trans ?_⟩
    rw [List.flatten_append, List.append_assoc]
    refine List.Perm.append_left ns ?_
    show (z.flatten ++ ([i] ++ [])).Perm ([i] ++ z.flatten)
    rw [List.append_nil]
    exact List.perm_append_comm
theorem Rel.node {t : T} {a ps : List T} {ns : List Int} {k : Str} (R : Rel t (a ++ [.tup [.str k, .tup ps]]) ns) (hk : isK k) (h2 : 2 ≤ ps.length) (hn : ∀ p ∈ ps, ¬ HasK p k) : Rel t (a ++ ps) ns := by
  refine ⟨fun x h => ?_, fun z h => ?_⟩
  · obtain ⟨z, hz, p⟩ := R.fw x h
    obtain ⟨u, v, rfl, h1, h3⟩ := hz.split
    obtain ⟨m, rfl, h4⟩ := h3.one
    cases h4 with
    | node _ _ _ h5 => exact ⟨_, h1.app h5, by simpa using p⟩
  · obtain ⟨u, v, rfl, h1, h3⟩ := h.split
    obtain ⟨x, hx, p⟩ := R.bw (u ++ [v.flatten]) (h1.app (.cons (.node hk h2 hn h3) .nil))
    exact ⟨x, hx, by simpa using p⟩
theorem Rel.none {t p : T} {a : List T} {ns : List Int} (R : Rel t (a ++ [p]) ns) (hp : ∀ m, ¬ Good p m) : ∀ x, ¬ Good t x := fun x h => by
  obtain ⟨z, hz, _⟩ := R.fw x h
  obtain ⟨u, v, rfl, h1, h3⟩ := hz.split
  obtain ⟨m, _, h4⟩ := h3.one
  exact hp m h4
theorem Rel.many {t : T} {a : List T} {ns : List Int} (R : Rel t a ns) : ∀ x, Good t x → ns.length + a.length ≤ x.length := fun x h => by
  obtain ⟨z, hz, p⟩ := R.fw x h
  rw [p.length_eq, List.length_append]
  have := hz.le
  omega
theorem Rel.done {t : T} {ns : List Int} (R : Rel t [] ns) : ∃ x, Good t x ∧ x.Perm ns := by
  obtain ⟨x, h, p⟩ := R.bw [] .nil
  exact ⟨x, h, by simpa using p⟩
theorem nil_or_snoc' {α : Type} (l : List α) : l = [] ∨ ∃ r a, l = r ++ [a] := by
  by_cases h : l = []
  · exact .inl h
  · exact .inr ⟨_, _, (List.dropLast_concat_getLast h).symm⟩
def up (n : Nat) : List Int := (List.range n).map fun i : Nat => (i : Int)
def IsTree (t : T) : Prop := ∃ x, Good t x ∧ x.length ≤ 24 ∧ x.Perm (up x.length)
theorem up_len (n : Nat) : (up n).length = n := by unfold up; rw [List.length_map, List.length_range]
theorem up_sorted (n : Nat) : (up n).Pairwise (· ≤ ·) := by
  unfold up
  rw [List.pairwise_map]
  exact List.pairwise_lt_range.imp fun h => by omega
theorem up_nodup (n : Nat) : (up n).Nodup := by
  unfold up
  rw [List.nodup_iff_pairwise_ne, List.pairwise_map]
  exact List.pairwise_lt_range.imp fun h => by omega
theorem sorted_eq {a b : List Int} (p : a.Perm b) (ha : a.Pairwise (· ≤ ·)) (hb : b.Pairwise (· ≤ ·)) : a = b := p.eq_of_pairwise (fun x y _ _ h1 h2 => Int.le_antisymm h1 h2) ha hb
def Tells (t : T) (r : List Int) : Prop := (∃ x, Good t x ∧ x.length ≤ 24 ∧ r.Perm x) ∨ (r = [] ∧ ∀ x, Good t x → 24 < x.length)
theorem Tells.tree {t : T} {r ms : List Int} (h : Tells t r) (p : ms.Perm r) (s : ms.Pairwise (· ≤ ·)) : (0 < r.length ∧ ms = up r.length) ↔ IsTree t := by
  rcases h with ⟨x, g, l, q⟩ | ⟨e, no⟩
  · constructor
    · rintro ⟨_, e⟩
      refine ⟨x, g, l, ?_⟩
      rw [← q.length_eq, ← e]
      exact (p.trans q).symm
    · rintro ⟨y, gy, ly, py⟩
      have l0 := g.ne
      refine ⟨by rw [q.length_eq]; exact l0, ?_⟩
      have e : y = x := Good.uniq gy g
      subst e
      refine sorted_eq (p.trans (q.trans ?_)) s (up_sorted _)
      rw [q.length_eq]
      exact py
  · subst e
    constructor
    · rintro ⟨h, _⟩
      exact absurd h (Nat.lt_irrefl _)
    · rintro ⟨y, gy, ly, _⟩
      have := no y gy
      omega
end Tre
set_option Elab.async false
set_option linter.all false
set_option maxRecDepth 100000
namespace PySem
open AutoSeq1
set_option maxRecDepth 100000 in
theorem list_extend_tupleG (l : Addr) (items : Array Value) (n : Nat) (b : Addr) (items2 : Array Value) (n2 : Nat) (dd : Option Addr) (sl : Array (Option Value)) (hs0 : ¬(!items.isEmpty && Builtin.List.listTooLong (items.size + items2.size)) = true) (hs1 : items.size ≤ sizeLine) (hs2 : items.size + items2.size ≤ sizeLine + 1) :
    Meets (Builtin.«list.extend» ⟨[.ref l, .ref b], []⟩) (fun _ R s => s.heap.get? l = some { cls := .type "list", dict := none, data := .seq items n, slots := #[] } ∧ s.heap.get? b = some { cls := .type "tuple", dict := dd, data := .seq items2 n2, slots := sl } ∧ R (.ok (.ret Value.none)) { s with heap := s.heap.update l (Obj.mapSeq fun x => x ++ items2), toks := s.toks }) :=
  .of_wp fun prog w A R s h => by
    obtain ⟨hp, g, d, tk, os⟩ := s; obtain ⟨hl, hb, h⟩ := h; have f1 := idx_int; have f2 := sub_tuple_tuple; have f3 := sub_list_list; have f4 := sub_tuple_list; have f5 := sub_list_tuple;
    have hz' : (items ++ items2).size ≤ sizeLine + 1 := by rw [Array.size_append]; exact hs2
    wp_walk using (wpAny_updateSeq hl rfl (hz := hs1) (_hz' := hz')), wpAny_loadPart' hl, wpAny_loadPart' hb; exact ⟨_, rfl, h⟩
end PySem
namespace L2
open PySem PySem.Spec PyProof.Rows
section
variable {X : Cx}
theorem mt_extendT : MtM X "list.extend" (fun x vs H Q => ∃ l b xs zs, x = .ref l ∧ vs = [.ref b] ∧ H l = some (.lst xs) ∧ SqT X.K H b zs ∧ xs.length + zs.length ≤ sizeLine ∧ Q .non (upd H l (.lst (xs ++ zs)))) := by
  intro pins s σ H x vs v us Q I rx rv h
  obtain ⟨l, b, xs, zs, rfl, rfl, hH, hB, hz, q⟩ := h
  cases rx
  obtain ⟨u, rfl, ru⟩ := rv.one
  cases ru
  obtain ⟨z, its, n, r, hl, e⟩ := I.lstM hH
  obtain ⟨its2, r2, ⟨⟨cls, dd, data, sl⟩, e2, hc, n2, hd⟩, hz2⟩ := I.tuple hB
  simp only at hc hd
  subst hc hd
  have hl2 := r2.length
  have hsz : its.toArray.size + its2.toArray.size ≤ sizeLine := by rw [List.size_toArray, List.size_toArray]; omega
  have hlong : ¬ (!its.toArray.isEmpty && Builtin.List.listTooLong (its.toArray.size + its2.toArray.size)) = true := by
    rw [notLongL hsz, Bool.and_false]
    exact Bool.false_ne_true
  refine call_meets F.slot_list_extend ⟨_, e, rfl⟩ F.entry_list_extend (F.args_list_extend_2 _ _)
    (list_extend_tupleG l its.toArray n b its2.toArray n2 dd sl hlong (by rw [List.size_toArray]; omega) (by omega)) ⟨e, e2, ?_⟩
  refine ⟨.non, _, I.lset (its' := its ++ its2) hH e (by simp) (r.append r2) ?_, rfl, q⟩
  rw [List.length_append]
  omega
theorem ints_vals : ∀ {ns : List Int} {us : List Value}, Vals (ns.map V.int) us → IntsAre us ns
  | [], _, .nil => .nil
  | n :: ns, _, .cons ⟨t, e⟩ r => by
    subst e
    exact .cons n t (ints_vals r)
theorem vals_intsB : ∀ {ns : List Int} {us : List Value}, IntsAre us ns → Vals (ns.map V.int) us
  | _, _, .nil => .nil
  | _, _, .cons n t r => .cons ⟨t, rfl⟩ (vals_intsB r)
theorem mt_countI : MtR X "list.count" (fun x vs H Q => ∃ (a : Addr) (ns : List Int) (k : Int), x = .ref a ∧ vs = [.int k] ∧ SqL X.K H a (ns.map V.int) ∧ Q (.int (ns.count k : Nat)) H) := by
  intro pins s σ H x xs v us Q I rx rxs h
  obtain ⟨a, ns, k, rfl, rfl, hq, q⟩ := h
  cases rx
  obtain ⟨u, rfl, t, rfl⟩ := vals1 rxs
  obtain ⟨its, rv, tp, hz⟩ := I.list hq
  exact count_list_ints tp.isList (ints_vals rv) ⟨.int _, H, I.tok _, ⟨_, rfl⟩, q⟩
theorem call_sortN : CallR X (.builtin "sorted") (fun xs H Q => ∃ (a : Addr) (ns : List Int), xs = [.ref a] ∧ SqL X.K H a (ns.map V.int) ∧ ns.length < 64 ∧ ∀ (l : Addr) (ms : List Int), H l = none → ms.Perm ns → ms.Pairwise (· ≤ ·) → Q (.ref l) (upd H l (.lst (ms.map V.int)))) := by
  intro pins s σ H xs us Q I r h
  obtain ⟨a, ns, rfl, hq, h64, q⟩ := h
  obtain ⟨u, rfl, ru⟩ := vals1 r
  cases ru
  obtain ⟨its, rv, tp, hz⟩ := I.list hq
  have hl := rv.length
  rw [List.length_map] at hl
  refine sorted_ints tp.isList (ints_vals rv) (by omega) fun out ms hI pm st => ?_
  obtain ⟨e, he⟩ := sortedAll_at s.heap its out
  have ln : (ms.map V.int).length ≤ sizeLine := by rw [List.length_map, pm.length_eq]; exact Nat.le_trans (Nat.le_of_lt h64) (by decide)
  refine ⟨.ref (s.heap.objs.size + 1), _, I.laid (t' := s.toks) (o := .lst (ms.map V.int)) (fun b u e => sortedAll_old e) (Nat.le_succ _) ⟨ln, out.toList, e, vals_intsB hI, ?_⟩, rfl, q _ ms (I.hok.fresh (Nat.le_succ _)) pm st⟩
  rw [he]
end
def ItR (K : PySem.W.Frag) (a : Addr) (n : Nat) : It :=
  ⟨fun i H => i < n ∧ ∃ xs, SqL K H a xs ∧ xs.length = n, fun i H x H' => H' = H ∧ ∀ xs, SqL K H a xs → xs[n - 1 - i]? = some x, fun i H => n ≤ i⟩
theorem turn_rev {P : Program} {w : World} {K : PySem.W.Frag} {tg : Expr} (a it : Addr) (n : Nat) : Turn P w K tg (ItR K a n) [it] it (fun i h => h.IsRevIter it a ((n : Int) - 1 - i) ∧ i ≤ n) where
  mem := by simp
  obj := fun i h st b hb => by
    have e : b = it := by simpa using hb
    subst e
    obtain ⟨⟨o, e, c, d⟩, _⟩ := st
    exact ⟨o, e, fun v z => by rw [d] at z; cases z⟩
  keep := fun i h h' st k => ⟨st.1.at fun o e => k it (by simp) o e, st.2⟩
  item := by
    intro X hP hw hK hc i pins s σ H E I hf st hg
    subst hP hw hK
    obtain ⟨hi, xs, hq, hx⟩ := hg
    obtain ⟨its, rv, p, hz⟩ := I.list hq
    have e1 : xs[n - 1 - i]? = some (xs[n - 1 - i]'(by omega)) := List.getElem?_eq_getElem (by omega)
    obtain ⟨u, hu, ru⟩ := rv.get e1
    obtain ⟨f0, f1, f2, f3, f4, f5⟩ := hf it (by simp)
    have st1 : s.heap.IsRevIter it a ((n - 1 - i : Nat) : Int) := by
      have := st.1
      rwa [show (n : Int) - 1 - i = ((n - 1 - i : Nat) : Int) by omega] at this
    refine wpAny_pyNext_rev_item st1 p.isList (x := u) (by simpa using hu) fun h' st' sb => ?_
    have I1 : Inv X pins σ H { s with heap := h' } := I.turned (t' := s.toks) (fun b o hb e => (sb.2 b hb).trans e) f0 f1 f3 f4 f5
    have st2 : h'.IsRevIter it a ((n : Int) - 1 - ((i + 1 : Nat) : Int)) := by
      rwa [show ((n - 1 - i : Nat) : Int) - 1 = (n : Int) - 1 - ((i + 1 : Nat) : Int) by omega] at st'
    obtain ⟨o, e, c, d⟩ := id st2
    exact ⟨u, rfl, go_of (s := { s with heap := h' }) e c d (by decide) ⟨_, H, I1, ru, ⟨rfl, fun ys hy => by rw [I.list_inj hy hq]; exact e1⟩, ⟨st2, by omega⟩, fun b hb => (hf b hb).1⟩⟩
  done := by
    intro X hP hw hK hc i pins s σ H E I hf st hg
    subst hP hw hK
    have hg : n ≤ i := hg
    obtain ⟨f0, f1, f2, f3, f4, f5⟩ := hf it (by simp)
    have st1 : s.heap.IsRevIter it a (-1) := by
      have := st.1
      rwa [show (n : Int) - 1 - i = -1 by have := st.2; omega] at this
    exact wpAny_pyNext_rev_end (I.ok.hd hc) st1 fun h' eb => ⟨rfl, I.turned (t' := s.toks) (fun b o hb e => eb b o hb e) f0 f1 f3 f4 f5⟩
  self := fun _ _ _ _ _ st h => wpAny_pyIter_revIter st.1 h
def iRev (K : PySem.W.Frag) (ta : TA) : TI := fun σ H R => ta σ H fun vs H1 => ∃ a xs, vs = [.ref a] ∧ SqL K H1 a xs ∧ R (ItR K a xs.length) H1
theorem pi_rev {X : Cx} {tg l : Expr} {ta : TA} {p pos : Pos} (hg : Gl X "reversed") (hm : X.mg "reversed" = none) (ha : PA X [l] ta) (hs : starEach [l] X.env = [(false, eval l X.env)] := by rfl) :
    PI X tg (.Call (.Name "reversed" p) [l] [] pos) (iRev X.K ta) := by
  intro pins s σ H R I h
  refine Call_ (ld_blt I hg hm boot_reversed (PyProof.Rows.callWith_type1 (thn (ha pos pins s σ H _ I h) fun us s1 ⟨vs, H1, I1, r1, q1⟩ => ?_) hs rfl))
  obtain ⟨a, xs, e, hq, q⟩ := q1
  subst e
  cases r1 with
  | cons r rr =>
    cases rr
    cases r
    obtain ⟨its, rv, tp, hz⟩ := I1.list hq
    have hl := rv.length
    refine call_reversed_list tp.isList ?_
    have e0 : ((its.toArray.size : Nat) : Int) - 1 = (xs.length : Int) - 1 - ((0 : Nat) : Int) := by rw [List.size_toArray]; omega
    have st0 : (s1.heap.push (revObj a (((its.toArray.size : Nat) : Int) - 1))).IsRevIter s1.heap.objs.size a ((xs.length : Int) - 1 - ((0 : Nat) : Int)) := ⟨_, Heap.get?_push_size _ rfl, rfl, by rw [e0]; rfl⟩
    refine wpAny_pyIter_revIter st0 ?_
    refine ⟨s1.heap.objs.size, [s1.heap.objs.size], _, _, H1, rfl, I1.kept (t' := s1.toks) fun b o e => Heap.get?_push_of_some _ e, turn_rev a _ xs.length, ⟨st0, Nat.zero_le _⟩, fun b hb => ?_, q⟩
    have e : b = s1.heap.objs.size := by simpa using hb
    subst e
    exact I1.fpOk (Nat.le_refl _) (I1.hok.fresh (Nat.le_refl _))
theorem for_rev {K : PySem.W.Frag} {a : Addr} {xs : List V} {g : TG} {tb : TS} {D : Ends} {σ : St} {H : Hp} (Pv : Nat → St → Hp → Prop) (h0 : Pv 0 σ H) (hl : ∀ i σ H, i ≤ xs.length → Pv i σ H → SqL K H a xs)
    (hs : ∀ i x σ H, i < xs.length → xs[xs.length - 1 - i]? = some x → Pv i σ H → g x σ H fun σ2 H2 => tb { D with nx := Pv (i + 1), ct := Pv (i + 1), bk := D.nx } σ2 H2) (hd : ∀ σ H, Pv xs.length σ H → D.nx σ H) :
    ∃ W : Nat → Nat → St → Hp → Prop, (∃ m, W 0 m σ H) ∧ ∀ i m σ H, W i m σ H →
      ((ItR K a xs.length).stop i H ∧ D.nx σ H) ∨ ((ItR K a xs.length).go i H ∧ ∃ N : St → Hp → Prop, (∀ σ' H', N σ' H' → ∃ m', m' < m ∧ W (i + 1) m' σ' H') ∧ ∀ x H', (ItR K a xs.length).yld i H x H' → g x σ H' fun σ2 H2 => tb { D with nx := N, ct := N, bk := D.nx } σ2 H2) := by
  refine ⟨fun i m σ H => m = xs.length - i ∧ i ≤ xs.length ∧ Pv i σ H, ⟨xs.length, by simp, Nat.zero_le _, h0⟩, ?_⟩
  rintro i m σ H ⟨rfl, hi, p⟩
  by_cases hlt : i < xs.length
  · refine .inr ⟨⟨hlt, xs, hl i σ H hi p, rfl⟩, Pv (i + 1), fun σ' H' p' => ⟨xs.length - (i + 1), by omega, rfl, hlt, p'⟩, fun x H' y => ?_⟩
    obtain ⟨e, y⟩ := y
    subst e
    exact hs i x σ _ hlt (y xs (hl i σ _ hi p)) p
  · have e : i = xs.length := by omega
    subst e
    exact .inl ⟨Nat.le_refl _, hd σ H p⟩
end L2
set_option Elab.async false
set_option linter.all false
set_option maxRecDepth 100000
set_option maxHeartbeats 4000000
namespace L2
open PySem PySem.Spec PyProof.Rows
section
variable {κ : Type} [DecidableEq κ]
end
section
variable {P : Program} {w : World} {H : Hp} {h : Heap} {a : Addr}
end
section
variable {X : Cx} {pins : List (Addr × Obj)} {σ : St} {H : Hp} {s : Shared} {a : Addr} {y v : V} {u r : Value} {o : Option V} {A : Around} {E : Value → Shared → Prop}
theorem Inv.big (I : Inv X pins σ H s) : sysModules < s.heap.objs.size := by
  have h : mainGlobals < s.heap.objs.size := (I.mod.glob.keeps I.bk).lt
  exact Nat.lt_trans (by decide) h
end
section
variable {X : Cx} {pins : List (Addr × Obj)} {σ : St} {H : Hp} {s : Shared} {a : Addr} {kvs : List (Key × V)} {k : Key} {u : Value} {A : Around} {E : Value → Shared → Prop}
end
section
variable {X : Cx} {o i e value : Expr} {pos pos' tpos : Pos} {td ty tv : TE}
end
theorem dk_empty {P : Program} {w : World} {H : Hp} (h : Heap) (hb : sysModules < h.objs.size) : ObjOk P w H (h.push { cls := .type "dict", data := .dict #[] }) h.objs.size (.dK []) :=
  ⟨Nat.zero_le _, beq_eq_false_iff_ne.mpr (Ne.symm (Nat.ne_of_lt hb)), [], .nil, Heap.DictOf.new h⟩
def tDNewK : TE := fun _ H Q => ∀ p, H p = none → Q (.ref p) (upd H p (.dK []))
section
variable {X : Cx} {pos : Pos}
theorem pe_dnewK : PE X (.Dict [] [] pos) tDNewK := fun pins s σ H Q I h =>
  wpAny_Dict_empty ⟨.ref s.heap.objs.size, _, I.laid (a := s.heap.objs.size) (o := .dK []) (t' := s.toks) (fun _ _ q => Heap.get?_push_of_some _ q) (Nat.le_refl _) (dk_empty s.heap I.big), rfl, h _ (I.hok.fresh (Nat.le_refl _))⟩
end
section
variable {X : Cx} {pins : List (Addr × Obj)} {σ : St} {H : Hp} {s : Shared} {a : Addr} {y d : V} {u r : Value} {o : Option V} {A : Around} {E : Value → Shared → Prop}
end
section
variable {X : Cx} {o e f : Expr} {apos cpos : Pos} {td ty tx : TE}
end
section
variable {X : Cx} {pins : List (Addr × Obj)} {σ : St} {H : Hp} {s : Shared} {a : Addr} {kvs : List (Key × V)} {A : Around} {E : Value → Shared → Prop}
end
section
variable {X : Cx} {pins : List (Addr × Obj)} {σ : St} {H : Hp} {s : Shared} {a : Addr} {y : V} {u : Value} {A : Around} {E : Value → Shared → Prop}
end
section
variable {X : Cx}
end
section
variable {κ : Type} [DecidableEq κ]
end
end L2
set_option Elab.async false
set_option linter.all false
set_option maxRecDepth 100000
set_option maxHeartbeats 4000000
namespace L2
open PySem PySem.Spec PyProof.Rows
section
variable {X : Cx}
def tLR (ta : TA) : TE := fun σ H Q => ta σ H fun vs H1 => ∃ n : Nat, vs = [.int n] ∧ n ≤ 1000000 ∧ ∀ l, H1 l = none → Q (.ref l) (upd H1 l (.lst ((List.range n).map fun i : Nat => V.int i)))
theorem vals_items {n : Nat} {its : Array Value} (h : ItemsOf (fun i v => ∃ t, v = Value.int (0 + (i : Int) * 1) t) its n) : Vals ((List.range n).map fun i : Nat => V.int i) its.toList := by
  obtain ⟨h1, h2⟩ := h
  have : ∀ (us : List Value) (k : Nat), (∀ j v, us[j]? = some v → ∃ t, v = Value.int ((k + j : Nat) : Int) t) → Vals ((List.range us.length).map fun i : Nat => V.int ((k + i : Nat) : Int)) us := by
    intro us
    induction us with
    | nil => intro k _; exact .nil
    | cons u us ih =>
      intro k h
      rw [List.length_cons, List.range_succ_eq_map, List.map_cons, List.map_map]
      refine .cons ?_ ?_
      · obtain ⟨t, rfl⟩ := h 0 u rfl
        exact ⟨t, rfl⟩
      · have := ih (k + 1) fun j v e => by
          obtain ⟨t, rfl⟩ := h (j + 1) v (by simpa using e)
          exact ⟨t, by rw [show k + 1 + j = k + (j + 1) by omega]⟩
        have e : ((fun i : Nat => V.int ((k + i : Nat) : Int)) ∘ Nat.succ) = fun i : Nat => V.int ((k + 1 + i : Nat) : Int) := by
          funext i
          show V.int ((k + (i + 1) : Nat) : Int) = V.int ((k + 1 + i : Nat) : Int)
          rw [show k + (i + 1) = k + 1 + i by omega]
        rw [e]
        exact this
  have := this its.toList 0 fun j v e => by
    obtain ⟨t, rfl⟩ := h2 j v (by rw [← Array.getElem?_toList]; exact e)
    exact ⟨t, by simp⟩
  rw [Array.length_toList, h1] at this
  simpa using this
theorem pe_listRange {a : Expr} {ta : TA} {p p2 pos pos2 : Pos} (hc : X.calm = true) (hgl : Gl X "list") (hml : X.mg "list" = none) (hg : Gl X "range") (hm : X.mg "range" = none) (ha : PA X [a] ta) (hs : starEach [a] X.env = [(false, eval a X.env)] := by rfl)
    (hs2 : starEach [.Call (.Name "range" p2) [a] [] pos2] X.env = [(false, eval (.Call (.Name "range" p2) [a] [] pos2) X.env)] := by rfl) : PE X (.Call (.Name "list" p) [.Call (.Name "range" p2) [a] [] pos2] [] pos) (tLR ta) := by
  intro pins s σ H Q I h
  refine wpAny_Call_Name_kw (ld_blt I hgl hml boot_list (PyProof.Rows.callWith_type1 ?_ hs2 rfl))
  rw [hs2]
  refine Calls.spliced_cons (Call_ (ld_blt I hg hm boot_range (PyProof.Rows.callWith_type1 (thn (ha pos2 pins s σ H _ I h) fun us s1 ⟨vs, H1, I1, r1, q1⟩ => ?_) hs rfl)))
  obtain ⟨n, e, hn, q⟩ := q1
  subst e
  obtain ⟨u, rfl, t, rfl⟩ := vals1 r1
  refine call_range_1 (Calls.spliced_nil ?_)
  refine call_list_range (n := n) (I1.ok.hd hc) (IsRange.new ..) (small_one (by decide) (by decide) (by omega) (by omega)) (by rw [rangeSize_one]; split <;> omega) (by omega) fun h' tk acc c' kp hl it => ?_
  have I2 : Inv X pins σ H1 { s1 with heap := s1.heap.push { cls := .type "range", data := .fields #[.int 0 s1.toks, .int n t, .int 1 (s1.toks + 1)] }, toks := s1.toks + 1 + 1 } := I1.kept fun b o e => Heap.get?_push_of_some _ e
  refine ⟨.ref _, _, I2.laid (t' := tk) (o := .lst ((List.range n).map fun i : Nat => V.int i)) kp (Nat.le_refl _) ⟨by rw [List.length_map, List.length_range]; exact Nat.le_trans hn (by decide), acc.toList, c', vals_items it, by simpa using hl⟩, rfl, q _ (I2.hok.fresh (Nat.le_refl _))⟩
end
end L2
set_option Elab.async false
set_option linter.all false
set_option maxRecDepth 100000
set_option maxHeartbeats 4000000
namespace L2
open PySem
def GI (mg : Str → Option Value) (x : Str) (n : Int) : Prop := ∃ t, mg x = some (.int n t)
theorem pe_gi {X : Cx} {x : Str} {n : Int} {pos : Pos} (hg : Gl X x) (h : GI X.mg x n) (hd : (x == ("__debug__" : Str)) = false := by decide) : PE X (.Name x pos) (tC (.int n)) := by
  obtain ⟨t, h⟩ := h
  exact pe_glob hg h ⟨t, rfl⟩ hd
theorem pe_cls {X : Cx} {x : Str} {C : Addr} {pos : Pos} (hg : Gl X x) (hm : X.mg x = some (.ref C)) (hd : (x == ("__debug__" : Str)) = false := by decide) : PE X (.Name x pos) (tC (.ref C)) := pe_glob hg hm rfl hd
theorem pe_tyn {X : Cx} {x : Str} {T : String} {pos : Pos} (hg : Gl X x) (hm : X.mg x = none) (hv : bootBuiltins x = some (.type T)) (hn : x ≠ "__name__" := by decide) (hd : (x == ("__debug__" : Str)) = false := by decide) : PE X (.Name x pos) (tC (.ty T)) := pe_bltn hg hm hv rfl hn hd
end L2
namespace KU
open PySem L2 Tre PySem.W
def top (i : Nat) : Stmt := PySem.Challenge.pw_pagepart_k33_boxes_counted.main.body.getD i (.Pass ⟨0, 0, 0, 0⟩)
abbrev sCellAt : Stmt := top 29
abbrev sRef : Stmt := top 40
abbrev sCount : Stmt := top 39
abbrev sLaw : Stmt := top 42
abbrev sWhole : Stmt := top 13
abbrev sHas : Stmt := top 20
abbrev sBr : Stmt := top 21
abbrev sNum : Stmt := top 22
abbrev sTree : Stmt := top 23
abbrev sLwh : Stmt := top 30
abbrev sJoin : Stmt := top 32
abbrev sLtree : Stmt := top 33
abbrev sIs : Stmt := top 34
abbrev sKnots : Stmt := top 35
abbrev sPut : Stmt := top 36
abbrev sOther : Stmt := top 37
abbrev sWrong : Stmt := top 38
abbrev sAsked : Stmt := top 41
abbrev sRefT : Stmt := top 24
abbrev sBoxes : Stmt := top 25
abbrev sWrit : Stmt := top 26
abbrev sShow : Stmt := top 27
structure Callee (P : Program) (w : World) (K : PySem.W.Frag) (mg : Str → Option Value) (base : Heap) (CX : CXT) (k : Nat) (x : Str) (f : Addr) (fd : FuncData) (ps : List Str) (sp : Sp) : Prop where
  ok : FnOk P w K mg base CX k f fd ps sp
  bound : mg x = some (.ref f)
  kp : PySem.W.keepIn K (.ref f) = true
  bd : Binds K fd ps []
theorem at_map {ns : List Int} {k : Int} (h0 : 0 ≤ k) (h1 : k < ns.length) : atI (ns.map V.int) k = some (.int (ns.getD k.toNat 0)) := by
  obtain ⟨j, rfl⟩ := Int.eq_ofNat_of_zero_le h0
  refine atI_nat ?_
  rw [List.getElem?_map, List.getElem?_eq_getElem (by omega)]
  simp [List.getD, show j < ns.length by omega]
theorem same_upd {H H1 : Hp} {l : Addr} {o : HO} (S : Same H H1) (hn : H l = none) : Same H (upd H1 l o) := fun b u e => by
  rw [upd_ne (ne_of_none e hn)]
  exact S b u e
theorem same_new {H : Hp} {p : Addr} {o : HO} (hn : H p = none) : Same H (upd H p o) := fun b u e => by rw [upd_ne (ne_of_none e hn)]; exact e
mutual
inductive At (H : Hp) : V → T → Prop where
  | non : At H .non .non
  | bl (b : Bool) : At H (.bl b) (.bl b)
  | int (i : Int) : At H (.int i) (.int i)
  | str (x : Str) : At H (.str x) (.str x)
  | tup {a : Addr} {vs : List V} {ts : List T} (e : H a = some (.tup vs)) (h : AtL H vs ts) : At H (.ref a) (.tup ts)
  | lst {a : Addr} {vs : List V} (e : H a = some (.lst vs)) : At H (.ref a) .lst
  | dic {a : Addr} {kvs : List (Key × V)} (e : H a = some (.dK kvs)) : At H (.ref a) .dic
inductive AtL (H : Hp) : List V → List T → Prop where
  | nil : AtL H [] []
  | cons {v : V} {t : T} {vs : List V} {ts : List T} (h : At H v t) (r : AtL H vs ts) : AtL H (v :: vs) (t :: ts)
end
mutual
theorem At.same {H H' : Hp} (S : Same H H') : ∀ {v : V} {t : T}, At H v t → At H' v t
  | _, _, .non => .non
  | _, _, .bl b => .bl b
  | _, _, .int i => .int i
  | _, _, .str x => .str x
  | _, _, .tup e h => .tup (S _ _ e) (AtL.same S h)
  | _, _, .lst e => .lst (S _ _ e)
  | _, _, .dic e => .dic (S _ _ e)
theorem AtL.same {H H' : Hp} (S : Same H H') : ∀ {vs : List V} {ts : List T}, AtL H vs ts → AtL H' vs ts
  | _, _, .nil => .nil
  | _, _, .cons h r => .cons (At.same S h) (AtL.same S r)
end
theorem AtL.len {H : Hp} : ∀ {vs : List V} {ts : List T}, AtL H vs ts → vs.length = ts.length
  | _, _, .nil => rfl
  | _, _, .cons _ r => by rw [List.length_cons, List.length_cons, r.len]
theorem AtL.get {H : Hp} : ∀ {vs : List V} {ts : List T} {i : Nat} {v : V}, AtL H vs ts → vs[i]? = some v → ∃ t, ts[i]? = some t ∧ At H v t
  | _, _, _, _, .nil, e => by simp at e
  | _, _, 0, _, .cons h _, e => by simp at e; subst e; exact ⟨_, rfl, h⟩
  | _, _, i + 1, v, .cons _ r, e => by
    obtain ⟨t, h1, h2⟩ := AtL.get (i := i) (v := v) r (by simpa using e)
    exact ⟨t, by simpa using h1, h2⟩
theorem AtL.get' {H : Hp} : ∀ {vs : List V} {ts : List T} {i : Nat} {t : T}, AtL H vs ts → ts[i]? = some t → ∃ v, vs[i]? = some v ∧ At H v t
  | _, _, _, _, .nil, e => by simp at e
  | _, _, 0, _, .cons h _, e => by simp at e; subst e; exact ⟨_, rfl, h⟩
  | _, _, i + 1, t, .cons _ r, e => by
    obtain ⟨v, h1, h2⟩ := AtL.get' (i := i) (t := t) r (by simpa using e)
    exact ⟨v, by simpa using h1, h2⟩
theorem AtL.app {H : Hp} : ∀ {vs us : List V} {ts ss : List T}, AtL H vs ts → AtL H us ss → AtL H (vs ++ us) (ts ++ ss)
  | _, _, _, _, .nil, s => s
  | _, _, _, _, .cons h r, s => .cons h (AtL.app r s)
theorem AtL.snoc {H : Hp} : ∀ {ts : List T} {t : T} {vs : List V}, AtL H vs (ts ++ [t]) → ∃ us v, vs = us ++ [v] ∧ AtL H us ts ∧ At H v t
  | [], t, _, .cons h .nil => ⟨[], _, rfl, .nil, h⟩
  | b :: ts, t, _, .cons h r => by
    obtain ⟨us, v, e, h1, h2⟩ := AtL.snoc (ts := ts) r
    exact ⟨_ :: us, v, by rw [e]; rfl, .cons h h1, h2⟩
def tyT : T → Value
  | .non => .type "NoneType"
  | .bl _ => .type "bool"
  | .int _ => .type "int"
  | .str _ => .type "str"
  | .tup _ => .type "tuple"
  | .lst => .type "list"
  | .dic => .type "dict"
theorem At.ty {K : PySem.W.Frag} {H : Hp} {v : V} {t : T} (h : At H v t) : TyX K H v (tyT t) := by
  cases h with
  | non => exact .of .non
  | bl b => exact .of (.bl b)
  | int i => exact .of (.int i)
  | str x => exact .of (.str x)
  | tup e _ => exact .of (.tup e)
  | lst e => exact .of (.lst e)
  | dic e => exact .of (.dK e)
def isI : T → Bool
  | .int _ => true
  | _ => false
def isIB : T → Bool
  | .int _ => true
  | .bl _ => true
  | _ => false
def isBl : T → Bool
  | .bl _ => true
  | _ => false
def isS : T → Bool
  | .str _ => true
  | _ => false
def isTp : T → Bool
  | .tup _ => true
  | _ => false
structure Nm (K : PySem.W.Frag) (mg : Str → Option Value) (kA : Addr) : Prop where
  gKIND : GI mg "KIND" 0
  gPARTS : GI mg "PARTS" 1
  gMOST_BOXES : GI mg "MOST_BOXES" 24
  gKINDS : mg "KINDS" = some (.ref kA)
  kk : ∀ H, SqT K H kA [.str bar, .str dash]
  ti : mg "isinstance" = none
  tint : mg "int" = none
  tbool : mg "bool" = none
  tstr : mg "str" = none
  ttup : mg "tuple" = none
  tlist : mg "list" = none
  tl : mg "len" = none
  tany : mg "any" = none
  ts : mg "sorted" = none
  tr : mg "range" = none
  kI : ∀ t, kitOne K (tyT t) (.type "int") = some (isIB t)
  kB : ∀ t, kitOne K (tyT t) (.type "bool") = some (isBl t)
  kS : ∀ t, kitOne K (tyT t) (.type "str") = some (isS t)
  kT : ∀ t, kitOne K (tyT t) (.type "tuple") = some (isTp t)
def isKb (k : Str) : Bool := decide (k = bar) || decide (k = dash)
theorem isKb_iff {k : Str} : isKb k = true ↔ isK k := by
  unfold isKb isK
  rw [Bool.or_eq_true, decide_eq_true_eq, decide_eq_true_eq]
def hasK : T → Bool
  | .tup [.str k, _] => isKb k
  | _ => false
def sameK (p : T) (k : Str) : Bool := match p with
  | .tup [.str j, _] => isKb j && decide (j = k)
  | _ => false
def isB : T → Bool
  | .tup [.str k, .tup ps] => isKb k && (decide (2 ≤ ps.length) && !(ps.any fun p => sameK p k))
  | _ => false
theorem sameK_iff {p : T} {k : Str} (hk : isK k) : sameK p k = true ↔ HasK p k := by
  constructor
  · intro h
    unfold sameK at h
    split at h
    · rename_i j q
      rw [Bool.and_eq_true, decide_eq_true_eq] at h
      exact ⟨q, by rw [h.2]⟩
    · cases h
  · rintro ⟨q, rfl⟩
    show (isKb k && decide (k = k)) = true
    rw [isKb_iff.mpr hk, decide_eq_true rfl]
    rfl
theorem isB_iff {t : T} : isB t = true ↔ ∃ k ps, t = .tup [.str k, .tup ps] ∧ isK k ∧ 2 ≤ ps.length ∧ ∀ p ∈ ps, ¬ HasK p k := by
  constructor
  · intro h
    unfold isB at h
    split at h
    · rename_i k ps
      rw [Bool.and_eq_true, Bool.and_eq_true, decide_eq_true_eq, Bool.not_eq_true', List.any_eq_false] at h
      have hk := isKb_iff.mp h.1
      exact ⟨k, ps, rfl, hk, h.2.1, fun p hp z => h.2.2 p hp ((sameK_iff hk).mpr z)⟩
    · cases h
  · rintro ⟨k, ps, rfl, hk, h2, hn⟩
    show (isKb k && (decide (2 ≤ ps.length) && !(ps.any fun p => sameK p k))) = true
    rw [isKb_iff.mpr hk, decide_eq_true h2, Bool.true_and, Bool.true_and, Bool.not_eq_true', List.any_eq_false]
    exact fun p hp z => hn p hp ((sameK_iff hk).mp z)
theorem no_good {t : T} (h1 : isI t = false) (h2 : isB t = false) : ∀ m, ¬ Good t m := fun m g => by
  cases g with
  | leaf i => cases h1
  | node hk h3 hn _ =>
    have := isB_iff.mpr ⟨_, _, rfl, hk, h3, hn⟩
    rw [h2] at this
    cases this
def spWhole : Sp := fun vs H Q _ => ∃ (x : V) (t : T), vs = [x] ∧ At H x t ∧ Q (.bl (isI t)) H
def spHas : Sp := fun vs H Q _ => ∃ (x : V) (t : T), vs = [x] ∧ At H x t ∧ Q (.bl (hasK t)) H
def spBr : Sp := fun vs H Q _ => ∃ (x : V) (t : T), vs = [x] ∧ At H x t ∧ (∀ a ps, t = .tup [a, .tup ps] → ps.length ≤ 100000) ∧ ∀ H', Same H H' → Q (.bl (isB t)) H'
section
variable {P : Program} {w : World} {K : PySem.W.Frag} {mg : Str → Option Value} {base : Heap} {kA : Addr}
theorem scWhole : FnScope ["thing"] ["thing"] (defScope sWhole) := ⟨rfl, rfl, rfl, by decide +kernel, rfl, by decide +kernel, by decide +kernel⟩
theorem ok_whole {f : Addr} {fd : FuncData} (F : Fun K "is_whole" "is_whole" sWhole f fd) (Z : Nm K mg kA) : FnOk P w K mg base CX0 1 f fd ["thing"] spWhole := by
  obtain ⟨gKIND, gPARTS, gMOST_BOXES, gKINDS, kk, ti, tint, tbool, tstr, ttup, tlist, tl, tany, ts, tr, kI, kB, kS, kT⟩ := Z
  refine F.ok scWhole (fun vs H Q E h => ?_) (fun cdv A outer s H vs Q E hr h => ?_)
  · obtain ⟨x, t, rfl, _⟩ := h
    rfl
  · obtain ⟨x, t, rfl, hA, q⟩ := h
    refine ⟨_, (pss_one (ps_ret (pe_and (pe_callB call_isi (by rfl) ti PyProof.Rows.boot_isinstance (pa_cons (pv 0) (pa_cons (pe_tyn rfl tint PyProof.Rows.boot_int) pa_nil))) (pe_one (pe_not (pe_callB call_isi (by rfl) ti PyProof.Rows.boot_isinstance (pa_cons (pv 0) (pa_cons (pe_tyn rfl tbool PyProof.Rows.boot_bool) pa_nil)))))))), ?_⟩
    refine ⟨_, rfl, _, _, _, _, rfl, rfl, hA.ty, kI t, _, rfl, ?_⟩
    have e : isI t = (isIB t && !isBl t) := by cases t <;> rfl
    rw [e] at q
    cases h1 : isIB t with
    | false =>
      rw [h1] at q
      exact iteF q
    | true =>
      rw [h1] at q
      exact iteT ⟨_, rfl, _, _, _, _, rfl, rfl, hA.ty, kB t, _, rfl, q⟩
theorem scHas : FnScope ["thing"] ["thing"] (defScope sHas) := ⟨rfl, rfl, rfl, by decide +kernel, rfl, by decide +kernel, by decide +kernel⟩
theorem in_kinds (k : Str) : inV (.str k) [.str bar, .str dash] = isKb k := by
  unfold isKb
  show (eqV (.str bar) (.str k) || (eqV (.str dash) (.str k) || false)) = _
  rw [Bool.or_false, Bool.eq_iff_iff, Bool.or_eq_true, Bool.or_eq_true, decide_eq_true_eq, decide_eq_true_eq]
  have e : ∀ a b : Str, eqV (.str a) (.str b) = true ↔ b = a := fun a b => by
    show (a == b) = true ↔ b = a
    rw [beq_iff_eq]
    exact eq_comm
  rw [e, e]
theorem ok_has {f : Addr} {fd : FuncData} (F : Fun K "has_kind" "has_kind" sHas f fd) (Z : Nm K mg kA) : FnOk P w K mg base CX0 1 f fd ["thing"] spHas := by
  obtain ⟨gKIND, gPARTS, gMOST_BOXES, gKINDS, kk, ti, tint, tbool, tstr, ttup, tlist, tl, tany, ts, tr, kI, kB, kS, kT⟩ := Z
  refine F.ok scHas (fun vs H Q E h => ?_) (fun cdv A outer s H vs Q E hr h => ?_)
  · obtain ⟨x, t, rfl, _⟩ := h
    rfl
  · obtain ⟨x, t, rfl, hA, q⟩ := h
    refine ⟨_, (pss_one (ps_ret (pe_and (pe_callB call_isi (by rfl) ti PyProof.Rows.boot_isinstance (pa_cons (pv 0) (pa_cons (pe_tyn rfl ttup PyProof.Rows.boot_tuple) pa_nil))) (pe_and (pe_cmpR op_eq (pe_callB call_len_seq (by rfl) tl PySem.boot_len (pa_cons (pv 0) pa_nil)) pe_int (nomark _)) (pe_and (pe_callB call_isi (by rfl) ti PyProof.Rows.boot_isinstance (pa_cons (pe_ix ix_tup (pv 0) (pe_gi rfl gKIND) (fun _ _ => rfl)) (pa_cons (pe_tyn rfl tstr PyProof.Rows.boot_str) pa_nil))) (pe_one (pe_cmpR op_in_seq (pe_ix ix_tup (pv 0) (pe_gi rfl gKIND) (fun _ _ => rfl)) (pe_cls rfl gKINDS) rfl))))))), ?_⟩
    refine ⟨_, rfl, _, _, _, _, rfl, rfl, hA.ty, kT t, _, rfl, ?_⟩
    cases hA with
    | non => exact iteF q
    | bl b => exact iteF q
    | int i => exact iteF q
    | str x => exact iteF q
    | lst e => exact iteF q
    | dic e => exact iteF q
    | @tup a us ss e hL =>
      refine iteT ⟨_, rfl, _, _, rfl, .inr (SqT.of e), rfl, _, rfl, ?_⟩
      have ln := hL.len
      have d : decide (V.int ((us.length : Nat) : Int) = V.int 2) = decide (us.length = 2) := by
        rw [dec_int, Bool.eq_iff_iff, beq_iff_eq, decide_eq_true_eq]
        omega
      rw [d]
      by_cases h2 : us.length = 2
      · rw [decide_eq_true h2]
        refine iteT ?_
        match us, ss, hL, h2, q with
        | [u0, u1], [s0, s1], .cons h0 (.cons h1 .nil), _, q =>
        refine ⟨_, rfl, _, _, _, _, rfl, rfl, SqT.of e, rfl, _, _, _, _, rfl, rfl, h0.ty, kS s0, _, rfl, ?_⟩
        cases h0 with
        | str k =>
          refine iteT ⟨_, rfl, _, _, _, _, rfl, rfl, SqT.of e, rfl, kA, _, rfl, .inr (kk _), rfl, rfl, ?_⟩
          rw [in_kinds]
          exact q
        | non => exact iteF q
        | bl b => exact iteF q
        | int i => exact iteF q
        | lst e => exact iteF q
        | dic e => exact iteF q
        | tup e h => exact iteF q
      · rw [decide_eq_false h2]
        have e0 : hasK (.tup ss) = false := by
          unfold hasK
          split
          · rename_i heq
            injection heq with heq
            rw [heq] at ln
            exact absurd ln h2
          · rfl
        rw [e0] at q
        exact iteF q
end
end KU
set_option Elab.async false
set_option linter.all false
set_option maxRecDepth 100000
set_option maxHeartbeats 4000000
namespace KU
open PySem L2 Tre PySem.W
inductive Small : T → Prop where
  | non : Small .non
  | bl (b : Bool) : Small (.bl b)
  | int (i : Int) : Small (.int i)
  | str (x : Str) : Small (.str x)
  | tup {ts : List T} (l : ts.length ≤ 1000) (h : ∀ t ∈ ts, Small t) : Small (.tup ts)
  | lst : Small .lst
  | dic : Small .dic
theorem Small.parts {ts : List T} (h : Small (.tup ts)) : ts.length ≤ 1000 ∧ ∀ t ∈ ts, Small t := by
  cases h with
  | tup l h => exact ⟨l, h⟩
def spNum : Sp := fun vs H Q _ => ∃ (x : V) (t : T), vs = [x] ∧ At H x t ∧ Small t ∧ ∀ (r : List Int) (l : Addr) (H' : Hp), Same H H' → H l = none → H' l = some (.lst (r.map V.int)) → r.length ≤ 24 → Tells t r → Q (.ref l) H'
def spTree : Sp := fun vs H Q _ => ∃ (x : V) (t : T), vs = [x] ∧ At H x t ∧ Small t ∧ ∀ (b : Bool) (H' : Hp), Same H H' → (b = true ↔ IsTree t) → Q (.bl b) H'
theorem eq_ints {K : PySem.W.Frag} {H : Hp} {a c : Addr} {ms ns : List Int} (ha : SqL K H a (ms.map V.int)) (hc : SqL K H c (ns.map V.int)) : EqR K H 1 (.ref a) (.ref c) (decide (ms = ns)) := by
  by_cases hl : ms.length = ns.length
  · have fl : ∀ (xs : List Int) (j : Nat), j < (xs.map V.int).length → (xs.map V.int).getD j .non = .int (xs.getD j 0) := fun xs j hj => by
      rw [List.length_map] at hj
      rw [List.getD_eq_getElem?_getD, List.getElem?_map, List.getElem?_eq_getElem hj, List.getD_eq_getElem?_getD, List.getElem?_eq_getElem hj]
      rfl
    have := EqR.lsts (K := K) (H := H) (n := 0) (e := fun j => eqV (.int (ms.getD j 0)) (.int (ns.getD j 0))) ha hc (by rw [List.length_map, List.length_map]; exact hl) fun j hj => by
      rw [fl ms j hj, fl ns j (by rw [List.length_map] at hj ⊢; omega)]
      exact .flat rfl rfl
    have e : (List.range (ms.map V.int).length).all (fun j => eqV (.int (ms.getD j 0)) (.int (ns.getD j 0))) = decide (ms = ns) := by
      rw [Bool.eq_iff_iff, decide_eq_true_eq, List.all_eq_true, List.length_map]
      constructor
      · intro h
        apply List.ext_getElem hl
        intro i h1 h2
        have := h i (List.mem_range.mpr h1)
        have this : (ms.getD i 0 == ns.getD i 0) = true := this
        rw [beq_iff_eq, List.getD_eq_getElem?_getD, List.getD_eq_getElem?_getD, List.getElem?_eq_getElem h1, List.getElem?_eq_getElem h2] at this
        exact this
      · rintro rfl j _
        show (ms.getD j 0 == ms.getD j 0) = true
        rw [beq_iff_eq]
    rw [← e]
    exact this
  · rw [decide_eq_false (fun z => hl (by rw [z]))]
    exact EqR.lens (n := 0) ha hc (by rw [List.length_map, List.length_map]; exact hl)
theorem hasK_iff {t : T} : hasK t = true ↔ ∃ k q, t = .tup [.str k, q] ∧ isKb k = true := by
  constructor
  · intro h
    unfold hasK at h
    split at h
    · exact ⟨_, _, rfl, h⟩
    · cases h
  · rintro ⟨k, q, rfl, h⟩
    exact h
theorem isB_no {t : T} (h : hasK t = false) : isB t = false := by
  cases e : isB t with
  | false => rfl
  | true =>
    obtain ⟨k, ps, rfl, hk, _⟩ := isB_iff.mp e
    have : hasK (.tup [.str k, .tup ps]) = true := hasK_iff.mpr ⟨k, _, rfl, isKb_iff.mpr hk⟩
    rw [h] at this
    cases this
theorem sameK_no {p : T} {k : Str} (h : hasK p = false) : sameK p k = false := by
  cases e : sameK p k with
  | false => rfl
  | true =>
    unfold sameK at e
    split at e
    · rename_i j q
      rw [Bool.and_eq_true] at e
      have : hasK (.tup [.str j, q]) = true := e.1
      rw [h] at this
      cases this
    · cases e
section
variable {P : Program} {w : World} {K : PySem.W.Frag} {mg : Str → Option Value} {base : Heap} {kA : Addr}
theorem scBr : FnScope ["thing", "parts"] ["thing"] (defScope sBr) := ⟨rfl, rfl, rfl, by decide +kernel, rfl, by decide +kernel, by decide +kernel⟩
theorem ok_br {f fH : Addr} {fd fdH : FuncData} (F : Fun K "is_branch" "is_branch" sBr f fd) (Z : Nm K mg kA) (Hk : Callee P w K mg base CX0 1 "has_kind" fH fdH ["thing"] spHas) : FnOk P w K mg base CX0 2 f fd ["thing"] spBr := by
  obtain ⟨gKIND, gPARTS, gMOST_BOXES, gKINDS, kk, ti, tint, tbool, tstr, ttup, tlist, tl, tany, ts, tr, kI, kB, kS, kT⟩ := Z
  refine F.ok scBr (fun vs H Q E h => ?_) (fun cdv A outer s H vs Q E hr h => ?_)
  · obtain ⟨x, t, rfl, _⟩ := h
    rfl
  · obtain ⟨x, t, rfl, hA, hn, q⟩ := h
    refine ⟨_, (pss_cons (ps_if (pt_not (pt_val (pe_call Hk.ok hr rfl Hk.bound Hk.kp Hk.bd .nil pass0 (pa_cons (pv 0) pa_nil))))
      (pss_one (ps_ret pe_bl))
      pss_nil)
      (pss_cons (ps_set (i := 1) scBr.nd rfl (Or.inl rfl) (pe_ix ix_tup (pv 0) (pe_gi rfl gPARTS) (fun _ _ => rfl)))
      (pss_cons (ps_if (PW.pt (pw_or (pt_not (pt_val (pe_callB call_isi (by rfl) ti PyProof.Rows.boot_isinstance (pa_cons (pv 1) (pa_cons (pe_tyn rfl ttup PyProof.Rows.boot_tuple) pa_nil))))) (pw_or1 (pt_cmpR op_lt (pe_callB call_len_seq (by rfl) tl PySem.boot_len (pa_cons (pv 1) pa_nil)) pe_int (nomark _)))))
      (pss_one (ps_ret pe_bl))
      pss_nil)
      (pss_one (ps_ret (pe_not (pe_callB (call_anyL rfl) (by rfl) tany PyProof.Rows.boot_any (pa_cons (pe_comp (Nc := ["part", "thing"]) (ix := [none, some 0]) rfl rfl (by exact (pi_tup (pv 1))) (fun _ _ _ _ _ => (pg_name (i := 0) (by show (["part", "thing"] : List Str).Nodup; decide +kernel) rfl (Or.inl rfl))) (fun _ _ _ _ _ => pts_nil) (fun _ _ _ _ _ => (pe_and (pe_call Hk.ok hr rfl Hk.bound Hk.kp Hk.bd .nil pass0 (pa_cons (pv 0) pa_nil)) (pe_one (pe_cmpR op_eq (pe_ix (ix_tupK (K := K) rfl) (pv 0) (pe_gi rfl gKIND) (fun _ _ => rfl)) (pe_ix (ix_tupK (K := K) rfl) (pv 1) (pe_gi rfl gKIND) (fun _ _ => rfl)) (nomark _)))))) pa_nil)))))))), ?_⟩
    refine ⟨_, rfl, x, t, rfl, hA, _, rfl, ?_⟩
    cases hh : hasK t with
    | false =>
      have := q H (Same.refl _)
      rw [isB_no hh] at this
      exact iteT this
    | true =>
      obtain ⟨k, qq, rfl, hk⟩ := hasK_iff.mp hh
      cases hA with
      | @tup a us ss e hL =>
      cases hL with
      | @cons u0 _ _ _ h0 hr =>
      cases h0
      cases hr with
      | @cons u1 _ _ _ hq hr2 =>
      cases hr2
      refine iteF ?_
      refine ⟨_, rfl, _, _, _, _, rfl, rfl, SqT.of e, rfl, ?_⟩
      refine ⟨_, rfl, _, _, _, _, rfl, rfl, hq.ty, kT qq, _, rfl, ?_⟩
      cases hq with
      | non => exact iteT (iteT (q H (Same.refl _)))
      | bl b => exact iteT (iteT (q H (Same.refl _)))
      | int i => exact iteT (iteT (q H (Same.refl _)))
      | str x => exact iteT (iteT (q H (Same.refl _)))
      | lst e => exact iteT (iteT (q H (Same.refl _)))
      | dic e => exact iteT (iteT (q H (Same.refl _)))
      | @tup b ws ps e2 hP =>
        have ln := hP.len
        have hn : ps.length ≤ 100000 := hn _ _ rfl
        refine iteF ⟨_, rfl, _, _, rfl, .inr (SqT.of e2), _, _, rfl, rfl, _, rfl, ?_⟩
        have qB : ∀ H', Same H H' → Q (.bl (isKb k && (decide (2 ≤ ps.length) && !(ps.any fun p => sameK p k)))) H' := q
        rw [hk] at qB
        by_cases h2 : 2 ≤ ps.length
        · rw [decide_eq_true h2] at qB
          rw [decide_eq_false (by omega)]
          refine iteF ?_
          refine ⟨_, rfl, b, rfl, ⟨_, SqT.of e2⟩, cmp_tup (K := K) (a := b) (xs := ws) (fun i ys σ H' => ys = ((ps.take i).map fun p => sameK p k).map V.bl ∧ H' = H ∧ ∃ o, σ = [o, some (.ref a)]) ⟨rfl, rfl, none, rfl⟩
            (fun i ys σ H' hi ⟨e, e3, _⟩ => ⟨by rw [e, List.length_map, List.length_map, List.length_take]; exact Nat.le_trans (show _ ≤ 1000000 by omega) (by decide), by rw [e3]; exact SqT.of e2⟩) ?_ ?_⟩
          · rintro ys σ H' ⟨e3, rfl, _⟩ la nl
            rw [ln, List.take_length] at e3
            subst e3
            refine ⟨la, ps.map fun p => sameK p k, rfl, SqL.of upd_same, _, rfl, ?_⟩
            have z := qB _ (same_new (o := .lst ((ps.map fun p => sameK p k).map V.bl)) nl)
            rw [List.any_map]
            exact z
          · rintro i x ys σ H' hx ⟨e3, rfl, o, rfl⟩
            subst e3
            obtain ⟨p, ep, hAp⟩ := hP.get hx
            obtain ⟨hil, ev⟩ := List.getElem?_eq_some_iff.mp ep
            dsimp only [gName, tYes]
            refine iteT ?_
            refine ⟨_, rfl, x, p, rfl, hAp, _, rfl, ?_⟩
            have fin : ∀ b : Bool, b = sameK p k → (((ps.take i).map fun p => sameK p k).map V.bl) ++ [V.bl b] = ((ps.take (i + 1)).map fun p => sameK p k).map V.bl := fun b eb => by
              rw [← List.take_append_getElem hil, ev, List.map_append, List.map_append, eb]
              rfl
            cases hp : hasK p with
            | false => exact iteF ⟨fin _ (sameK_no hp).symm, rfl, _, rfl⟩
            | true =>
              obtain ⟨j, r, rfl, hj⟩ := hasK_iff.mp hp
              cases hAp with
              | @tup c vs2 _ e4 hL2 =>
              cases hL2 with
              | @cons v0 _ _ _ g0 gr =>
              cases g0
              cases gr with
              | @cons v1 _ _ _ g1 gr2 =>
              cases gr2
              refine iteT ⟨_, rfl, _, _, _, _, rfl, rfl, SqT.of e4, rfl, _, rfl, _, _, _, _, rfl, rfl, SqT.of e, rfl, rfl, fin _ ?_, rfl, _, rfl⟩
              show decide (V.str j = V.str k) = (isKb j && decide (j = k))
              rw [hj, Bool.true_and, dec_str, Bool.eq_iff_iff, beq_iff_eq, decide_eq_true_eq]
        · rw [decide_eq_false h2] at qB
          rw [decide_eq_true (by omega)]
          exact iteT (qB H (Same.refl _))
theorem scNum : FnScope ["thing", "numbers", "ahead", "part"] ["thing"] (defScope sNum) := ⟨rfl, rfl, rfl, by decide +kernel, rfl, by decide +kernel, by decide +kernel⟩
theorem ok_num {f fW fB : Addr} {fd fdW fdB : FuncData} (F : Fun K "numbers_in" "numbers_in" sNum f fd) (Z : Nm K mg kA) (Wo : Callee P w K mg base CX0 1 "is_whole" fW fdW ["thing"] spWhole) (Br : Callee P w K mg base CX0 2 "is_branch" fB fdB ["thing"] spBr) : FnOk P w K mg base CX0 4 f fd ["thing"] spNum := by
  obtain ⟨gKIND, gPARTS, gMOST_BOXES, gKINDS, kk, ti, tint, tbool, tstr, ttup, tlist, tl, tany, ts, tr, kI, kB, kS, kT⟩ := Z
  refine F.ok scNum (fun vs H Q E h => ?_) (fun cdv A outer s H vs Q E hr h => ?_)
  · obtain ⟨x, t, rfl, _⟩ := h
    rfl
  · obtain ⟨x, t, rfl, hA, hS, q⟩ := h
    refine ⟨_, (pss_cons (ps_set (i := 1) scNum.nd rfl (Or.inl rfl) (pe_lst pa_nil))
      (pss_cons (ps_set (i := 2) scNum.nd rfl (Or.inl rfl) (pe_lst (pa_cons (pv 0) pa_nil)))
      (pss_cons (ps_while PassesOwn.never (pt_truth (pv 2) (fun _ => rfl))
      (pss_cons (ps_set (i := 3) scNum.nd rfl (Or.inl rfl) (pe_bm0 PySem.F.plainAttrs_list PySem.F.slot_list_pop PySem.F.type_list_pop mt_pop (pv 2)))
        (pss_cons (ps_if (pt_val (pe_call Wo.ok (hr.mono (show 1 ≤ 3 by decide)) rfl Wo.bound Wo.kp Wo.bd .nil pass0 (pa_cons (pv 3) pa_nil)))
        (pss_one (ps_expr (pe_bm PySem.F.plainAttrs_list PySem.F.slot_list_append PySem.F.type_list_append mt_append (pv 1) (pa_cons (pv 3) pa_nil))))
        (pss_one (ps_if (pt_val (pe_call Br.ok (hr.mono (show 2 ≤ 3 by decide)) rfl Br.bound Br.kp Br.bd .nil pass0 (pa_cons (pv 3) pa_nil)))
          (pss_one (ps_expr (pe_bm PySem.F.plainAttrs_list PySem.F.slot_list_extend PySem.F.type_list_extend mt_extendT (pv 2) (pa_cons (pe_ix ix_tup (pv 3) (pe_gi rfl gPARTS) (fun _ _ => rfl)) pa_nil))))
          (pss_one (ps_ret (pe_lst pa_nil))))))
        (pss_one (ps_if (pt_cmpR op_gt (pe_op op_add (pe_callB call_len_seq (by rfl) tl PySem.boot_len (pa_cons (pv 1) pa_nil)) (pe_callB call_len_seq (by rfl) tl PySem.boot_len (pa_cons (pv 2) pa_nil))) (pe_gi rfl gMOST_BOXES) (nomark _))
        (pss_one (ps_ret (pe_lst pa_nil)))
        pss_nil)))))
      (pss_one (ps_ret (pv 1)))))), ?_⟩
    refine ⟨by show 0 ≤ sizeLine; decide, fun ln nln => ?_⟩
    have S1 := same_new (o := .lst []) nln
    have h1 : (upd H ln (.lst [])) ln = some (.lst []) := upd_same
    generalize upd H ln (.lst []) = H1 at S1 h1
    refine ⟨_, rfl, by show 1 ≤ sizeLine; decide, fun la nla => ?_⟩
    have S2 := S1.trans (same_new (o := .lst [x]) nla)
    have h2 : (upd H1 la (.lst [x])) la = some (.lst [x]) := upd_same
    have h1 := same_new (o := .lst [x]) nla _ _ h1
    have fla : H la = none := S1.free nla
    have nn : ln ≠ la := fun z => by rw [z, h2] at h1; cases h1
    generalize upd H1 la (.lst [x]) = H2 at S2 h1 h2
    dsimp only
    refine run_seq ?_
    refine while_n (fun m σ H3 => ∃ (us : List V) (ts : List T) (ns : List Int) (o : Option V), m = szL ts ∧ σ = [some x, some (.ref ln), some (.ref la), o] ∧ Same H H3 ∧ H3 ln = some (.lst (ns.map V.int)) ∧ H3 la = some (.lst us) ∧ AtL H us ts ∧ (∀ t ∈ ts, Small t) ∧ Rel t ts ns ∧ ns.length + ts.length ≤ 24) (szL [t])
      ⟨[x], [t], [], none, rfl, rfl, S2, h1, h2, .cons hA .nil, (fun u hu => by rw [List.mem_singleton.mp hu]; exact hS), .start t, by show 0 + 1 ≤ 24; decide⟩ ?_
    rintro m σ H3 ⟨us, ts, ns, o, rfl, rfl, S3, hln, hla, hL, hSm, R, l24⟩
    have lus := hL.len
    have te : ∀ k : Bool, k = !us.isEmpty → k = decide (us ≠ []) := fun k e => by
      rw [e]
      cases us <;> simp
    refine ⟨us ≠ [], inferInstance, fun Q' q' => ⟨_, rfl, _, .inl ⟨us, SqL.of hla, rfl⟩, by rw [te _ rfl]; exact q'⟩, fun hne => ?_, fun hne => ?_⟩
    · obtain ⟨ts', p, rfl⟩ : ∃ ts' p, ts = ts' ++ [p] := by
        have : ts ≠ [] := fun z => by rw [z] at lus; exact hne (List.length_eq_zero_iff.mp lus)
        exact ⟨_, _, (List.dropLast_concat_getLast this).symm⟩
      obtain ⟨us', v, rfl, hL', hv⟩ := hL.snoc
      have hpS := hSm p (by simp)
      refine ⟨_, rfl, .inl ⟨rfl, _, SqL.of hla⟩, la, _, v, rfl, rfl, hla, (by simp), ?_⟩
      have S4 : Same H (upd H3 la (.lst (us' ++ [v]).dropLast)) := same_upd S3 fla
      have hla4 : (upd H3 la (.lst (us' ++ [v]).dropLast)) la = some (.lst us') := by rw [upd_same, List.dropLast_concat]
      have hln4 : (upd H3 la (.lst (us' ++ [v]).dropLast)) ln = some (.lst (ns.map V.int)) := by rw [upd_ne nn]; exact hln
      generalize upd H3 la (.lst (us' ++ [v]).dropLast) = H4 at S4 hla4 hln4
      rw [List.length_append, List.length_singleton] at l24
      have ssz : szL (ts' ++ [p]) = szL ts' + sz p := by rw [szL_app]; show szL ts' + (sz p + szL []) = _; rw [show szL [] = 0 by unfold szL; rfl]; omega
      have psz := sz_pos p
      try dsimp only
      refine seq_key (R := fun σ H5 => ∃ (us5 : List V) (ts5 : List T) (ns5 : List Int), σ = [some x, some (.ref ln), some (.ref la), some v] ∧ Same H H5 ∧ H5 ln = some (.lst (ns5.map V.int)) ∧ H5 la = some (.lst us5) ∧ AtL H us5 ts5 ∧ (∀ t ∈ ts5, Small t) ∧ Rel t ts5 ns5 ∧ szL ts5 < szL (ts' ++ [p]) ∧ us5.length ≤ 2000 ∧ ns5.length ≤ 30) ?_ (fun k => ?_)
      case refine_1 =>
        rintro σ H5 ⟨us5, ts5, ns5, rfl, S5, hln5, hla5, hL5, hS5, R5, lt5, u2000, n30⟩
        have l5 := hL5.len
        refine tst_if (p := (24 : Int) < (((ns5.map V.int).length : Nat) : Int) + ((us5.length : Nat) : Int)) (tst_of (evl_I0 (evl_I0 (evl_lenL (evl_var rfl) (SqL.of hln5)) (evl_lenL (evl_var rfl) (SqL.of hla5))) evl_c)) (fun c => ?_) (fun c => ?_)
        · rw [List.length_map] at c
          refine ⟨by show 0 ≤ sizeLine; decide, fun l nl => q [] l _ (S5.trans (same_new nl)) (S5.free nl) upd_same (by decide) (.inr ⟨rfl, fun y gy => ?_⟩)⟩
          have := R5.many y gy
          omega
        · rw [List.length_map] at c
          exact ⟨szL ts5, lt5, us5, ts5, ns5, _, rfl, rfl, S5, hln5, hla5, hL5, hS5, R5, by omega⟩
      refine ⟨_, rfl, v, p, rfl, hv.same S4, _, rfl, ?_⟩
      cases hI : isI p with
      | true =>
        refine iteT ?_
        cases hv with
        | int i =>
          refine ⟨_, rfl, .inl ⟨rfl, _, SqL.of hln4⟩, _, rfl, ln, _, _, rfl, rfl, hln4, by rw [List.length_map]; exact Nat.lt_of_le_of_lt (show _ ≤ 24 by omega) (by decide), ?_⟩
          refine k _ _ ⟨us', ts', ns ++ [i], rfl, same_upd S4 nln, by rw [upd_same, List.map_append]; rfl, by rw [upd_ne nn.symm]; exact hla4, hL', fun u hu => hSm u (List.mem_append_left _ hu), R.leaf, by omega, ?_, by rw [List.length_append, List.length_singleton]; omega⟩
          rw [hL'.len]
          omega
        | non => cases hI
        | bl b => cases hI
        | str x => cases hI
        | tup e h => cases hI
        | lst e => cases hI
        | dic e => cases hI
      | false =>
        refine iteF ?_
        have sb : ∀ a ps, p = .tup [a, .tup ps] → ps.length ≤ 100000 := fun a ps e => by
          subst e
          have := (hpS.parts.2 (.tup ps) (by simp)).parts.1
          omega
        refine ⟨_, rfl, v, p, rfl, hv.same S4, sb, fun H5 S5 => ⟨_, rfl, ?_⟩⟩
        have S45 := S4.trans S5
        cases hB : isB p with
        | false =>
          refine iteF ?_
          refine ⟨by show 0 ≤ sizeLine; decide, fun l nl => q [] l _ (S45.trans (same_new nl)) (S45.free nl) upd_same (by decide) (.inr ⟨rfl, fun y gy => ?_⟩)⟩
          exact absurd gy (R.none (no_good hI hB) y)
        | true =>
          refine iteT ?_
          obtain ⟨kd, ps, rfl, hk, h2p, hno⟩ := isB_iff.mp hB
          cases hv with
          | @tup a _ _ e hLL =>
          cases hLL with
          | @cons u0 _ _ _ g0 gr =>
          cases g0
          cases gr with
          | @cons u1 _ _ _ g1 gr2 =>
          cases gr2
          cases g1 with
          | @tup b ws _ e2 hP =>
          have lw := hP.len
          have pl := (hpS.parts.2 (.tup ps) (by simp)).parts
          refine ⟨_, rfl, .inl ⟨rfl, _, SqL.of (S5 _ _ hla4)⟩, _, rfl, _, _, _, _, rfl, rfl, SqT.of (S45 _ _ e), rfl, la, b, _, _, rfl, rfl, S5 _ _ hla4, SqT.of (S45 _ _ e2), Nat.le_trans (show us'.length + ws.length ≤ 2000 by have := hL'.len; omega) (by decide), ?_⟩
          refine k _ _ ⟨us' ++ ws, ts' ++ ps, ns, rfl, same_upd S45 fla, by rw [upd_ne nn]; exact S5 _ _ hln4, upd_same, hL'.app hP, fun u hu => ?_, R.node hk h2p hno, ?_, by rw [List.length_append]; have := hL'.len; omega, by omega⟩
          · rcases List.mem_append.mp hu with z | z
            · exact hSm u (List.mem_append_left _ z)
            · exact pl.2 u z
          · rw [ssz, szL_app]
            rw [sz_node]
            omega
    · have e0 : us = [] := Classical.byContradiction fun z => hne z
      subst e0
      cases hL
      obtain ⟨y, gy, py⟩ := R.done
      refine ⟨_, rfl, q ns ln H3 S3 nln hln (by omega) (.inl ⟨y, gy, ?_, py.symm⟩)⟩
      rw [py.length_eq]
      omega
theorem scTree : FnScope ["thing", "numbers"] ["thing"] (defScope sTree) := ⟨rfl, rfl, rfl, by decide +kernel, rfl, by decide +kernel, by decide +kernel⟩
theorem ok_tree {f fN : Addr} {fd fdN : FuncData} (F : Fun K "is_tree" "is_tree" sTree f fd) (Z : Nm K mg kA) (Nu : Callee P w K mg base CX0 4 "numbers_in" fN fdN ["thing"] spNum) : FnOk P w K mg base CX0 5 f fd ["thing"] spTree := by
  obtain ⟨gKIND, gPARTS, gMOST_BOXES, gKINDS, kk, ti, tint, tbool, tstr, ttup, tlist, tl, tany, ts, tr, kI, kB, kS, kT⟩ := Z
  refine F.ok scTree (fun vs H Q E h => ?_) (fun cdv A outer s H vs Q E hr h => ?_)
  · obtain ⟨x, t, rfl, _⟩ := h
    rfl
  · obtain ⟨x, t, rfl, hA, hS, q⟩ := h
    refine ⟨_, (pss_cons (ps_set (i := 1) scTree.nd rfl (Or.inl rfl) (pe_call Nu.ok hr rfl Nu.bound Nu.kp Nu.bd .nil pass0 (pa_cons (pv 0) pa_nil)))
      (pss_one (ps_ret (pe_and (pe_cmpR op_gt (pe_callB call_len_seq (by rfl) tl PySem.boot_len (pa_cons (pv 1) pa_nil)) pe_int (nomark _)) (pe_one (pe_cmpR (op_eqR hr.units) (pe_callB call_sortN (by rfl) ts PyProof.Rows.boot_sorted (pa_cons (pv 1) pa_nil)) (pe_listRange rfl rfl tlist rfl tr (pa_cons (pe_callB call_len_seq (by rfl) tl PySem.boot_len (pa_cons (pv 1) pa_nil)) pa_nil)) (nomark _))))))), ?_⟩
    refine ⟨_, rfl, x, t, rfl, hA, hS, fun r l H1 S1 nl hl r24 tells => ?_⟩
    refine ⟨_, rfl, _, _, rfl, .inl (SqL.of hl), _, _, rfl, rfl, _, rfl, ?_⟩
    rw [List.length_map]
    by_cases h0 : 0 < r.length
    · rw [decide_eq_true (by omega)]
      refine iteT ?_
      refine ⟨_, rfl, l, r, rfl, SqL.of hl, by omega, fun l2 ms nl2 pm st => ?_⟩
      have S2 := same_new (o := .lst (ms.map V.int)) nl2
      have h2 : (upd H1 l2 (.lst (ms.map V.int))) l2 = some (.lst (ms.map V.int)) := upd_same
      have hl2 := S2 _ _ hl
      generalize upd H1 l2 (.lst (ms.map V.int)) = H2 at S2 h2 hl2
      refine ⟨_, rfl, _, _, rfl, .inl (SqL.of hl2), r.length, by rw [List.length_map], by omega, fun l3 nl3 => ?_⟩
      have S3 := same_new (o := .lst ((List.range r.length).map fun i : Nat => V.int i)) nl3
      have h3 : (upd H2 l3 (.lst ((List.range r.length).map fun i : Nat => V.int i))) l3 = some (.lst ((up r.length).map V.int)) := by
        rw [upd_same]
        unfold up
        rw [List.map_map]
        rfl
      refine ⟨l2, l3, 1, _, rfl, rfl, eq_ints (SqL.of (S3 _ _ h2)) (SqL.of h3), by decide, ?_⟩
      refine q _ _ (S1.trans (S2.trans S3)) ?_
      show decide (ms = up r.length) = true ↔ _
      rw [decide_eq_true_eq, ← tells.tree pm st]
      exact ⟨fun z => ⟨h0, z⟩, fun z => z.2⟩
    · rw [decide_eq_false (by omega)]
      refine iteF (q _ _ S1 ?_)
      rw [← tells.tree (List.Perm.refl _) (by rw [List.length_eq_zero_iff.mp (show r.length = 0 by omega)]; exact List.Pairwise.nil)]
      exact ⟨fun z => (by cases z), fun z => absurd z.1 h0⟩
end
end KU
set_option Elab.async false
set_option linter.all false
set_option maxRecDepth 100000
set_option maxHeartbeats 4000000
namespace Tre
open PySem
structure Rel2 (t : T) (pile : List (T × Str)) (ns : List Int) : Prop where
  fw : ∀ x, Good t x → (∀ q ∈ pile, ¬ HasK q.1 q.2) ∧ ∃ z, GoodL (pile.map (·.1)) z ∧ x.Perm (ns ++ z.flatten)
  bw : ∀ z, GoodL (pile.map (·.1)) z → (∀ q ∈ pile, ¬ HasK q.1 q.2) → ∃ x, Good t x ∧ x.Perm (ns ++ z.flatten)
theorem Rel2.start (t : T) : Rel2 t [(t, "")] [] := by
  refine ⟨fun x h => ⟨fun q hq => ?_, [x], .cons h .nil, by simp⟩, fun z h _ => ?_⟩
  · rw [List.mem_singleton.mp hq]
    rintro ⟨p, e⟩
    have e : t = .tup [.str "", p] := e
    rw [e] at h
    cases h with
    | node hk _ _ _ => rcases hk with e | e <;> exact absurd e (by decide +kernel)
  · obtain ⟨ns, rfl, h2⟩ := GoodL.one h
    exact ⟨ns, h2, by simp⟩
theorem Rel2.leaf {t : T} {a : List (T × Str)} {ns : List Int} {i : Int} {k : Str} (R : Rel2 t (a ++ [(.int i, k)]) ns) : Rel2 t a (ns ++ [i]) := by
  have pm : ∀ u : List (List Int), (ns ++ (u ++ [[i]]).flatten).Perm (ns ++ [i] ++ u.flatten) := fun u => by
    rw [List.flatten_append, List.append_assoc]
    refine List.Perm.append_left ns ?_
    show (u.flatten ++ ([i] ++ [])).Perm ([i] ++ u.flatten)
    rw [List.append_nil]
    exact List.perm_append_comm
  refine ⟨fun x h => ?_, fun z h hq => ?_⟩
  · obtain ⟨h0, z, hz, p⟩ := R.fw x h
    rw [List.map_append] at hz
    obtain ⟨u, v, rfl, h1, h2⟩ := hz.split
    obtain ⟨m, rfl, h3⟩ := GoodL.one h2
    cases h3
    exact ⟨fun q hq => h0 q (List.mem_append_left _ hq), u, h1, p.trans (pm u)⟩
  · obtain ⟨x, h1, p⟩ := R.bw (z ++ [[i]]) (by rw [List.map_append]; exact h.app (.cons (.leaf i) .nil)) (fun q hq' => by
      rcases List.mem_append.mp hq' with y | y
      · exact hq q y
      · rw [List.mem_singleton.mp y]
        rintro ⟨p, e⟩
        cases e)
    exact ⟨x, h1, p.trans (pm z)⟩
theorem Rel2.node {t : T} {a : List (T × Str)} {ps : List T} {ns : List Int} {k b : Str} (R : Rel2 t (a ++ [(.tup [.str k, .tup ps], b)]) ns) (hk : isK k) (h2 : 2 ≤ ps.length) (hb : k ≠ b) : Rel2 t (a ++ ps.map (·, k)) ns := by
  have em : (a ++ ps.map (·, k)).map (·.1) = a.map (·.1) ++ ps := by
    rw [List.map_append, List.map_map]
    congr 1
    exact List.map_id ps
  refine ⟨fun x h => ?_, fun z h hq => ?_⟩
  · obtain ⟨h0, z, hz, p⟩ := R.fw x h
    rw [List.map_append] at hz
    obtain ⟨u, v, rfl, h1, h3⟩ := hz.split
    obtain ⟨m, rfl, h4⟩ := GoodL.one h3
    cases h4 with
    | node _ _ hn h5 =>
      refine ⟨fun q hq => ?_, _, by rw [em]; exact h1.app h5, by simpa using p⟩
      rcases List.mem_append.mp hq with y | y
      · exact h0 q (List.mem_append_left _ y)
      · obtain ⟨r, hr, rfl⟩ := List.mem_map.mp y
        exact hn r hr
  · rw [em] at h
    obtain ⟨u, v, rfl, h1, h3⟩ := h.split
    have hn : ∀ p ∈ ps, ¬ HasK p k := fun p hp => hq (p, k) (List.mem_append_right _ (List.mem_map.mpr ⟨p, hp, rfl⟩))
    obtain ⟨x, hx, p⟩ := R.bw (u ++ [v.flatten]) (by rw [List.map_append]; exact h1.app (.cons (.node hk h2 hn h3) .nil)) (fun q hq' => by
      rcases List.mem_append.mp hq' with y | y
      · exact hq q (List.mem_append_left _ y)
      · rw [List.mem_singleton.mp y]
        rintro ⟨r, e⟩
        have e : T.tup [.str k, .tup ps] = .tup [.str b, r] := e
        injection e with e
        injection e with e1 e2
        injection e1 with e1
        exact hb e1)
    exact ⟨x, hx, by simpa using p⟩
theorem Rel2.none {t p : T} {a : List (T × Str)} {ns : List Int} {b : Str} (R : Rel2 t (a ++ [(p, b)]) ns) (hp : HasK p b ∨ ∀ m, ¬ Good p m) : ¬ IsTree t := by
  rintro ⟨x, h, _⟩
  obtain ⟨h0, z, hz, _⟩ := R.fw x h
  rcases hp with hp | hp
  · exact h0 (p, b) (by simp) hp
  · rw [List.map_append] at hz
    obtain ⟨u, v, rfl, h1, h3⟩ := hz.split
    obtain ⟨m, _, h4⟩ := GoodL.one h3
    exact hp m h4
theorem Rel2.twice {t : T} {a : List (T × Str)} {ns : List Int} (R : Rel2 t a ns) (h : 24 < ns.length ∨ ∃ i, 1 < ns.count i) : ¬ IsTree t := by
  rintro ⟨x, hx, l24, px⟩
  obtain ⟨_, z, hz, p⟩ := R.fw x hx
  rcases h with h | ⟨i, h⟩
  · have := p.length_eq
    rw [List.length_append] at this
    omega
  · have e1 := p.count_eq i
    rw [List.count_append] at e1
    have e2 := px.count_eq i
    have := List.nodup_iff_count.mp (up_nodup x.length) i
    omega
theorem Rel2.done {t : T} {ns ms : List Int} (R : Rel2 t [] ns) (l : ns.length ≤ 24) (p : ms.Perm ns) (s : ms.Pairwise (· ≤ ·)) : ms = up ns.length ↔ IsTree t := by
  obtain ⟨x, h, px⟩ := R.bw [] .nil (fun q hq => (List.not_mem_nil hq).elim)
  have px : x.Perm ns := by simpa using px
  have tells : Tells t ns := .inl ⟨x, h, by rw [px.length_eq]; exact l, px.symm⟩
  rw [← tells.tree p s]
  have := h.ne
  rw [px.length_eq] at this
  exact ⟨fun e => ⟨this, e⟩, fun e => e.2⟩
theorem szL_len : ∀ ts : List T, ts.length ≤ szL ts
  | [] => Nat.zero_le _
  | t :: r => by
    have := szL_len r
    have := sz_pos t
    show r.length + 1 ≤ sz t + szL r
    omega
end Tre
namespace KU
open PySem L2 Tre PySem.W
mutual
theorem small_of : ∀ t : T, sz t ≤ 1000 → Small t
  | .non, _ => .non
  | .bl b, _ => .bl b
  | .int i, _ => .int i
  | .str x, _ => .str x
  | .lst, _ => .lst
  | .dic, _ => .dic
  | .tup ts, h => by
    have e : sz (.tup ts) = 1 + szL ts := by simp only [sz]
    have := szL_len ts
    exact .tup (by omega) (small_ofL ts (by omega))
theorem small_ofL : ∀ ts : List T, szL ts ≤ 1000 → ∀ t ∈ ts, Small t
  | [], _, t, ht => (List.not_mem_nil ht).elim
  | t :: r, h, u, hu => by
    have e : szL (t :: r) = sz t + szL r := by simp only [szL]
    rcases List.mem_cons.mp hu with z | z
    · rw [z]
      exact small_of t (by omega)
    · exact small_ofL r (by omega) u z
end
def spCellAt (K : PySem.W.Frag) : Sp := fun vs H Q _ => ∃ (a : Addr) (ns : List Int) (k : Int), vs = [.ref a, .int k] ∧ SqL K H a (ns.map V.int) ∧ 0 ≤ k ∧ ∀ n : Int, Q (.int n) H
def spIs : Sp := fun vs H Q _ => ∃ (x : V) (t : T), vs = [x] ∧ At H x t ∧ sz t ≤ 1000 ∧ ∀ (b : Bool) (H' : Hp), Same H H' → (b = true ↔ IsTree t) → Q (.bl b) H'
def PiAt (H H3 : Hp) (u : V) (q : T × Str) : Prop := ∃ a v, u = .ref a ∧ H3 a = some (.tup [v, .str q.2]) ∧ At H v q.1
def PisAt (H H3 : Hp) : List V → List (T × Str) → Prop := Paired (PiAt H H3)
theorem PisAt.imp {H H3 H4 : Hp} (f : ∀ v p, PiAt H H3 v p → PiAt H H4 v p) : ∀ {vs : List V} {ps : List (T × Str)}, PisAt H H3 vs ps → PisAt H H4 vs ps
  | _, _, .nil => .nil
  | _, _, .cons h t => .cons (f _ _ h) (PisAt.imp f t)
theorem PisAt.same {H H3 H4 : Hp} (S : Same H3 H4) {vs : List V} {ps : List (T × Str)} (h : PisAt H H3 vs ps) : PisAt H H4 vs ps := PisAt.imp (fun _ _ ⟨a, v, e, z, w⟩ => ⟨a, v, e, S _ _ z, w⟩) h
theorem PisAt.upd {H H3 : Hp} {l : Addr} {xs : List V} {o' : HO} (hl : H3 l = some (.lst xs)) {vs : List V} {ps : List (T × Str)} (h : PisAt H H3 vs ps) : PisAt H (upd H3 l o') vs ps := PisAt.imp (fun _ _ ⟨a, v, e, z, w⟩ => ⟨a, v, e, by rw [upd_ne (ne_of z hl (by intro q; cases q))]; exact z, w⟩) h
theorem PisAt.len {H H3 : Hp} {vs : List V} {ps : List (T × Str)} (h : PisAt H H3 vs ps) : vs.length = ps.length := Paired.length h
theorem PisAt.add {H H3 : Hp} {vs : List V} {ps : List (T × Str)} {v : V} {p : T × Str} (h : PisAt H H3 vs ps) (r : PiAt H H3 v p) : PisAt H H3 (vs ++ [v]) (ps ++ [p]) := Paired.snoc h r
theorem PisAt.snoc {H H3 : Hp} : ∀ {ps : List (T × Str)} {p : T × Str} {vs : List V}, PisAt H H3 vs (ps ++ [p]) → ∃ us v, vs = us ++ [v] ∧ PisAt H H3 us ps ∧ PiAt H H3 v p
  | [], p, _, .cons r .nil => ⟨[], _, rfl, .nil, r⟩
  | b :: ps, p, _, .cons r t => by
    obtain ⟨us, v, e, h1, h2⟩ := PisAt.snoc (ps := ps) t
    exact ⟨_ :: us, v, by rw [e]; rfl, .cons r h1, h2⟩
theorem notin_kinds (k : Str) : (!inV (.str k) [.str "|", .str "-"]) = !isKb k := congrArg not (in_kinds k)
theorem eq_nil {K : PySem.W.Frag} {H : Hp} {a b : Addr} (ha : SqL K H a []) (hb : SqL K H b []) : EqR K H 1 (.ref a) (.ref b) true :=
  EqR.lsts (n := 0) (xs := []) (ys := []) (e := fun _ => true) ha hb rfl (fun j hj => absurd hj (Nat.not_lt_zero _))
section
variable {P : Program} {w : World} {K : PySem.W.Frag} {mg : Str → Option Value} {base : Heap} {kA : Addr}
theorem scCellAt : FnScope ["script", "k"] ["script", "k"] (defScope sCellAt) := ⟨rfl, rfl, rfl, by decide +kernel, rfl, by decide +kernel, by decide +kernel⟩
theorem ok_cellAt {f : Addr} {fd : FuncData} (F : Fun K "_law_cell_at" "_law_cell_at" sCellAt f fd) (tl : mg "len" = none) : FnOk P w K mg base CX0 1 f fd ["script", "k"] (spCellAt K) := by
  refine F.ok scCellAt (fun vs H Q E h => ?_) (fun cdv A outer s H vs Q E hr h => ?_)
  · obtain ⟨a, ns, k, rfl, _⟩ := h
    rfl
  · obtain ⟨a, ns, k, rfl, hS, k1, q⟩ := h
    refine ⟨_, (pss_cons (ps_if (pt_cmpR op_lt (pv 1) (pe_callB call_len_seq (by rfl) tl PySem.boot_len (pa_cons (pv 0) pa_nil)) (nomark _))
      (pss_one (ps_ret (pe_ix ix_list (pv 0) (pv 1) (fun _ _ => rfl))))
      pss_nil)
      (pss_one (ps_ret pe_int))), ?_⟩
    refine ⟨_, rfl, _, rfl, _, _, rfl, .inl hS, _, _, rfl, rfl, _, rfl, ?_⟩
    rw [List.length_map]
    refine ite2 (fun c1 => ?_) (fun c1 => ?_)
    · have c1 := of_decide_eq_true c1
      exact ⟨_, rfl, _, rfl, _, _, _, _, rfl, rfl, hS, at_map k1 c1, q _⟩
    · exact q _
theorem scLwh : FnScope ["found"] ["found"] (defScope sLwh) := ⟨rfl, rfl, rfl, by decide +kernel, rfl, by decide +kernel, by decide +kernel⟩
theorem ok_lwh {f : Addr} {fd : FuncData} (F : Fun K "_law_whole" "_law_whole" sLwh f fd) (Z : Nm K mg kA) : FnOk P w K mg base CX0 1 f fd ["found"] spWhole := by
  obtain ⟨gKIND, gPARTS, gMOST_BOXES, gKINDS, kk, ti, tint, tbool, tstr, ttup, tlist, tl, tany, ts, tr, kI, kB, kS, kT⟩ := Z
  refine F.ok scLwh (fun vs H Q E h => ?_) (fun cdv A outer s H vs Q E hr h => ?_)
  · obtain ⟨x, t, rfl, _⟩ := h
    rfl
  · obtain ⟨x, t, rfl, hA, q⟩ := h
    refine ⟨_, (pss_one (ps_ret (pe_and (pe_callB call_isi (by rfl) ti PyProof.Rows.boot_isinstance (pa_cons (pv 0) (pa_cons (pe_tyn rfl tint PyProof.Rows.boot_int) pa_nil))) (pe_one (pe_not (pe_callB call_isi (by rfl) ti PyProof.Rows.boot_isinstance (pa_cons (pv 0) (pa_cons (pe_tyn rfl tbool PyProof.Rows.boot_bool) pa_nil)))))))), ?_⟩
    refine ⟨_, rfl, _, _, _, _, rfl, rfl, hA.ty, kI t, _, rfl, ?_⟩
    have e : isI t = (isIB t && !isBl t) := by cases t <;> rfl
    rw [e] at q
    cases h1 : isIB t with
    | false =>
      rw [h1] at q
      exact iteF q
    | true =>
      rw [h1] at q
      exact iteT ⟨_, rfl, _, _, _, _, rfl, rfl, hA.ty, kB t, _, rfl, q⟩
theorem scIs : FnScope ["thing", "pile", "numbers", "here", "above", "part"] ["thing"] (defScope sIs) := ⟨rfl, rfl, rfl, by decide +kernel, rfl, by decide +kernel, by decide +kernel⟩
theorem ok_is {f fW : Addr} {fd fdW : FuncData} (F : Fun K "_law_is" "_law_is" sIs f fd) (Z : Nm K mg kA) (Lh : Callee P w K mg base CX0 1 "_law_whole" fW fdW ["found"] spWhole) : FnOk P w K mg base CX0 2 f fd ["thing"] spIs := by
  obtain ⟨gKIND, gPARTS, gMOST_BOXES, gKINDS, kk, ti, tint, tbool, tstr, ttup, tlist, tl, tany, ts, tr, kI, kB, kS, kT⟩ := Z
  refine F.ok scIs (fun vs H Q E h => ?_) (fun cdv A outer s H vs Q E hr h => ?_)
  · obtain ⟨x, t, rfl, _⟩ := h
    rfl
  · obtain ⟨x, t, rfl, hA, hS, q⟩ := h
    refine ⟨_, (pss_cons (ps_set (i := 1) scIs.nd rfl (Or.inl rfl) (pe_lst (pa_cons (pe_tup (pa_cons (pv 0) (pa_cons pe_str pa_nil))) pa_nil)))
      (pss_cons (ps_set (i := 2) scIs.nd rfl (Or.inl rfl) (pe_lst pa_nil))
      (pss_cons (ps_while PassesOwn.never (pt_cmpR (op_neR hr.units) (pv 1) (pe_lst pa_nil) (nomark _))
      (pss_cons (ps_asg (pe_bm0 PySem.F.plainAttrs_list PySem.F.slot_list_pop PySem.F.type_list_pop mt_pop (pv 1)) (pg_tup rfl (pgs_cons (pg_name (i := 3) scIs.nd rfl (Or.inl rfl)) (pgs_cons (pg_name (i := 4) scIs.nd rfl (Or.inl rfl)) pgs_nil))))
        (pss_one (ps_if (pt_val (pe_call Lh.ok (hr.mono (show 1 ≤ 1 by decide)) rfl Lh.bound Lh.kp Lh.bd .nil pass0 (pa_cons (pv 3) pa_nil)))
        (pss_cons (ps_expr (pe_bm PySem.F.plainAttrs_list PySem.F.slot_list_append PySem.F.type_list_append mt_append (pv 2) (pa_cons (pv 3) pa_nil)))
          (pss_one (ps_if (PW.pt (pw_or (pt_cmpR op_gt (pe_callB call_len_seq (by rfl) tl PySem.boot_len (pa_cons (pv 2) pa_nil)) pe_int (nomark _)) (pw_or1 (pt_cmpR op_gt (pe_bm PySem.F.plainAttrs_list PySem.F.slot_list_count PySem.F.type_list_count mt_countI (pv 2) (pa_cons (pv 3) pa_nil)) pe_int (nomark _)))))
          (pss_one (ps_ret pe_bl))
          pss_nil)))
        (pss_cons (ps_if (PW.pt (pw_or (pt_not (pt_val (pe_callB call_isi (by rfl) ti PyProof.Rows.boot_isinstance (pa_cons (pv 3) (pa_cons (pe_tyn rfl ttup PyProof.Rows.boot_tuple) pa_nil))))) (pw_or (pt_cmpR op_ne (pe_callB call_len_seq (by rfl) tl PySem.boot_len (pa_cons (pv 3) pa_nil)) pe_int (nomark _)) (pw_or1 (pt_not (pt_val (pe_callB call_isi (by rfl) ti PyProof.Rows.boot_isinstance (pa_cons (pe_ix ix_tup (pv 3) pe_int (fun _ _ => rfl)) (pa_cons (pe_tyn rfl tstr PyProof.Rows.boot_str) pa_nil)))))))))
          (pss_one (ps_ret pe_bl))
          pss_nil)
          (pss_cons (ps_if (PW.pt (pw_or (pt_cmpR op_notIn_seq (pe_ix ix_tup (pv 3) pe_int (fun _ _ => rfl)) (pe_lst (pa_cons pe_str (pa_cons pe_str pa_nil))) rfl) (pw_or (pt_cmpR op_eq (pe_ix ix_tup (pv 3) pe_int (fun _ _ => rfl)) (pv 4) (nomark _)) (pw_or (pt_not (pt_val (pe_callB call_isi (by rfl) ti PyProof.Rows.boot_isinstance (pa_cons (pe_ix ix_tup (pv 3) pe_int (fun _ _ => rfl)) (pa_cons (pe_tyn rfl ttup PyProof.Rows.boot_tuple) pa_nil))))) (pw_or1 (pt_cmpR op_lt (pe_callB call_len_seq (by rfl) tl PySem.boot_len (pa_cons (pe_ix ix_tup (pv 3) pe_int (fun _ _ => rfl)) pa_nil)) pe_int (nomark _)))))))
          (pss_one (ps_ret pe_bl))
          pss_nil)
          (pss_one (ps_for PassesOwn.never rfl (pi_tup (pe_ix ix_tup (pv 3) pe_int (fun _ _ => rfl))) (pg_name (i := 5) scIs.nd rfl (Or.inl rfl))
          (pss_one (ps_expr (pe_bm PySem.F.plainAttrs_list PySem.F.slot_list_append PySem.F.type_list_append mt_append (pv 1) (pa_cons (pe_tup (pa_cons (pv 5) (pa_cons (pe_ix ix_tup (pv 3) pe_int (fun _ _ => rfl)) pa_nil))) pa_nil))))))))))))
      (pss_one (ps_ret (pe_and (pe_cmpR op_lt (pe_callB call_len_seq (by rfl) tl PySem.boot_len (pa_cons (pv 2) pa_nil)) pe_int (nomark _)) (pe_one (pe_cmpR (op_eqR hr.units) (pe_callB call_sortN (by rfl) ts PyProof.Rows.boot_sorted (pa_cons (pv 2) pa_nil)) (pe_listRange rfl rfl tlist rfl tr (pa_cons (pe_callB call_len_seq (by rfl) tl PySem.boot_len (pa_cons (pv 2) pa_nil)) pa_nil)) (nomark _))))))))), ?_⟩
    refine ⟨_, rfl, by show 2 ≤ sizeLine; decide, fun p0 np0 => ⟨by show 1 ≤ sizeLine; decide, fun la nla => ?_⟩⟩
    have S1 := same_new (o := .tup [x, .str ""]) np0
    have hp0 : (upd H p0 (.tup [x, .str ""])) p0 = some (.tup [x, .str ""]) := upd_same
    generalize upd H p0 (.tup [x, .str ""]) = H1 at S1 hp0 nla
    have fla : H la = none := S1.free nla
    have S2 := S1.trans (same_new (o := .lst [.ref p0]) nla)
    have h2 : (upd H1 la (.lst [.ref p0])) la = some (.lst [.ref p0]) := upd_same
    have hp0 := same_new (o := .lst [.ref p0]) nla _ _ hp0
    generalize upd H1 la (.lst [.ref p0]) = H2 at S2 h2 hp0
    refine ⟨by show 0 ≤ sizeLine; decide, fun ln nln => ?_⟩
    have fln : H ln = none := S2.free nln
    have nn : la ≠ ln := ne_of_none h2 nln
    have S3 := S2.trans (same_new (o := .lst []) nln)
    have h3 : (upd H2 ln (.lst [])) ln = some (.lst []) := upd_same
    have h2 := same_new (o := .lst []) nln _ _ h2
    have hp0 := same_new (o := .lst []) nln _ _ hp0
    generalize upd H2 ln (.lst []) = H3 at S3 h2 h3 hp0
    dsimp only
    refine run_seq ?_
    refine ⟨fun m σ H4 => ∃ (us : List V) (ps : List (T × Str)) (ns : List Int) (o3 o4 o5 : Option V), m = szL (ps.map (·.1)) ∧ σ = [some x, some (.ref la), some (.ref ln), o3, o4, o5] ∧ Same H H4 ∧ H4 ln = some (.lst (ns.map V.int)) ∧ H4 la = some (.lst us) ∧ PisAt H H4 us ps ∧ szL (ps.map (·.1)) ≤ 1000 ∧ Rel2 t ps ns ∧ ns.length ≤ 24,
      ⟨_, [.ref p0], [(t, "")], [], none, none, none, rfl, rfl, S3, h3, h2, .cons ⟨p0, x, rfl, hp0, hA⟩ .nil, ?_, .start t, by decide⟩, ?_⟩
    · show szL [t] ≤ 1000
      have : szL [t] = sz t := by simp only [szL]; omega
      omega
    rintro m σ H4 ⟨us, ps, ns, o3, o4, o5, rfl, rfl, S4, hln, hla, hP, hsz, R, l24⟩
    refine ⟨_, rfl, by show 0 ≤ sizeLine; decide, fun pe npe => ?_⟩
    have Se := same_new (o := .lst []) npe
    have hpe : (upd H4 pe (.lst [])) pe = some (.lst []) := upd_same
    have S5 := S4.trans Se
    have hln := Se _ _ hln
    have hla := Se _ _ hla
    have hP := hP.same Se
    generalize upd H4 pe (.lst []) = H5 at Se hpe S5 hln hla hP
    have lps := hP.len
    rcases Tre.nil_or_snoc' ps with e | ⟨ps', pa, e⟩
    · subst e
      cases hP
      refine ⟨la, pe, 1, true, rfl, rfl, eq_nil (SqL.of hla) (SqL.of hpe), by decide, false, rfl, iteF ?_⟩
      refine ⟨_, rfl, _, _, rfl, .inl (SqL.of hln), _, _, rfl, rfl, _, rfl, ?_⟩
      rw [List.length_map, decide_eq_true (by omega)]
      refine iteT ⟨_, rfl, ln, ns, rfl, SqL.of hln, by omega, fun l2 ms nl2 pm st => ?_⟩
      have S6 := same_new (o := .lst (ms.map V.int)) nl2
      have h6 : (upd H5 l2 (.lst (ms.map V.int))) l2 = some (.lst (ms.map V.int)) := upd_same
      have hln6 := S6 _ _ hln
      generalize upd H5 l2 (.lst (ms.map V.int)) = H6 at S6 h6 hln6
      refine ⟨_, rfl, _, _, rfl, .inl (SqL.of hln6), ns.length, by rw [List.length_map], by omega, fun l3 nl3 => ?_⟩
      have S7 := same_new (o := .lst ((List.range ns.length).map fun i : Nat => V.int i)) nl3
      have h7 : (upd H6 l3 (.lst ((List.range ns.length).map fun i : Nat => V.int i))) l3 = some (.lst ((up ns.length).map V.int)) := by
        rw [upd_same]
        unfold up
        rw [List.map_map]
        rfl
      refine ⟨l2, l3, 1, _, rfl, rfl, eq_ints (SqL.of (S7 _ _ h6)) (SqL.of h7), by decide, ?_⟩
      refine q _ _ (S5.trans (S6.trans S7)) ?_
      show decide (ms = up ns.length) = true ↔ _
      rw [decide_eq_true_eq]
      exact R.done l24 pm st
    · subst e
      obtain ⟨p, ab⟩ := pa
      obtain ⟨us', u, rfl, hP', q0, v, rfl, hq0, hv⟩ := hP.snoc
      refine ⟨la, pe, 1, false, rfl, rfl, EqR.lens (n := 0) (SqL.of hla) (SqL.of hpe) (by simp), by decide, true, rfl, iteT ⟨_, fun _ _ y => y, ?_⟩⟩
      refine ⟨_, rfl, .inl ⟨rfl, _, SqL.of hla⟩, la, _, .ref q0, rfl, rfl, hla, (by simp), ?_⟩
      have S6 : Same H (upd H5 la (.lst (us' ++ [V.ref q0]).dropLast)) := same_upd S5 fla
      have hq6 : (upd H5 la (.lst (us' ++ [V.ref q0]).dropLast)) q0 = some (.tup [v, .str ab]) := by rw [upd_ne (ne_of hq0 hla (by intro z; cases z))]; exact hq0
      have hla6 : (upd H5 la (.lst (us' ++ [V.ref q0]).dropLast)) la = some (.lst us') := by rw [upd_same, List.dropLast_concat]
      have hln6 : (upd H5 la (.lst (us' ++ [V.ref q0]).dropLast)) ln = some (.lst (ns.map V.int)) := by rw [upd_ne nn.symm]; exact hln
      have hP6 := hP'.upd (o' := .lst (us' ++ [V.ref q0]).dropLast) hla
      generalize upd H5 la (.lst (us' ++ [V.ref q0]).dropLast) = H6 at S6 hq6 hla6 hln6 hP6
      refine ⟨q0, _, rfl, SqT.of hq6, rfl, _, _, rfl, _, _, rfl, rfl, ?_⟩
      have hv6 := hv.same S6
      have lsz : szL ((ps' ++ [(p, ab)]).map (·.1)) = szL (ps'.map (·.1)) + sz p := by
        rw [List.map_append, szL_app]
        show _ + szL [p] = _
        have : szL [p] = sz p := by simp only [szL]; omega
        omega
      have psz := sz_pos p
      refine ⟨_, rfl, v, p, rfl, hv6, _, rfl, ?_⟩
      have nok : ∀ H7, Same H6 H7 → (HasK p ab ∨ ∀ m, ¬ Good p m) → Q (.bl false) H7 := fun H7 S7 h => q false H7 (S6.trans S7) ⟨fun z => (by cases z), fun z => absurd z (R.none h)⟩
      cases hI : isI p with
      | true =>
        refine iteT ?_
        cases hv with
        | int i =>
          refine ⟨_, rfl, .inl ⟨rfl, _, SqL.of hln6⟩, _, rfl, ln, _, _, rfl, rfl, hln6, by rw [List.length_map]; exact Nat.lt_of_le_of_lt (show _ ≤ 24 by omega) (by decide), ?_⟩
          have R7 := R.leaf
          have S7 : Same H (upd H6 ln (.lst (ns.map V.int ++ [.int i]))) := same_upd S6 fln
          have hln7 : (upd H6 ln (.lst (ns.map V.int ++ [.int i]))) ln = some (.lst ((ns ++ [i]).map V.int)) := by rw [upd_same, List.map_append]; rfl
          have hla7 : (upd H6 ln (.lst (ns.map V.int ++ [.int i]))) la = some (.lst us') := by rw [upd_ne nn]; exact hla6
          have hP7 := hP6.upd (o' := .lst (ns.map V.int ++ [.int i])) hln6
          generalize upd H6 ln (.lst (ns.map V.int ++ [.int i])) = H7 at S7 hln7 hla7 hP7
          refine ⟨_, rfl, _, _, rfl, .inl (SqL.of hln7), _, _, rfl, rfl, _, rfl, ?_⟩
          rw [List.length_map]
          by_cases c1 : 24 < (ns ++ [i]).length
          · rw [decide_eq_true (by omega)]
            exact iteT (iteT (q false H7 S7 ⟨fun z => (by cases z), fun z => absurd z (R7.twice (.inl c1))⟩))
          · rw [decide_eq_false (by omega)]
            refine iteF ⟨_, rfl, .inl ⟨rfl, _, SqL.of hln7⟩, _, rfl, ln, ns ++ [i], i, rfl, rfl, SqL.of hln7, _, _, rfl, rfl, _, rfl, ?_⟩
            by_cases c2 : 1 < (ns ++ [i]).count i
            · rw [decide_eq_true (by omega)]
              exact iteT (q false H7 S7 ⟨fun z => (by cases z), fun z => absurd z (R7.twice (.inr ⟨i, c2⟩))⟩)
            · rw [decide_eq_false (by omega)]
              exact iteF ⟨_, by rw [lsz]; omega, us', ps', ns ++ [i], _, _, _, rfl, rfl, S7, hln7, hla7, hP7, by rw [lsz] at hsz; omega, R7, by omega⟩
        | non => cases hI
        | bl b => cases hI
        | str x => cases hI
        | tup e h => cases hI
        | lst e => cases hI
        | dic e => cases hI
      | false =>
        refine iteF ?_
        have no0 : isB p = false → Q (.bl false) H6 := fun h => nok H6 (Same.refl _) (.inr (no_good hI h))
        cases hv with
        | int i => cases hI
        | non => exact ⟨_, rfl, _, _, _, _, rfl, rfl, hv6.ty, kT _, _, rfl, iteT (iteT (no0 rfl))⟩
        | bl b => exact ⟨_, rfl, _, _, _, _, rfl, rfl, hv6.ty, kT _, _, rfl, iteT (iteT (no0 rfl))⟩
        | str x => exact ⟨_, rfl, _, _, _, _, rfl, rfl, hv6.ty, kT _, _, rfl, iteT (iteT (no0 rfl))⟩
        | lst e => exact ⟨_, rfl, _, _, _, _, rfl, rfl, hv6.ty, kT _, _, rfl, iteT (iteT (no0 rfl))⟩
        | dic e => exact ⟨_, rfl, _, _, _, _, rfl, rfl, hv6.ty, kT _, _, rfl, iteT (iteT (no0 rfl))⟩
        | @tup a vs0 ss e hLL =>
          have e6 := S6 _ _ e
          have ls := hLL.len
          refine ⟨_, rfl, _, _, _, _, rfl, rfl, hv6.ty, kT _, _, rfl, iteF ⟨_, rfl, _, _, rfl, .inr (SqT.of e6), rfl, _, rfl, ?_⟩⟩
          have d : decide (V.int ((vs0.length : Nat) : Int) = V.int 2) = decide (vs0.length = 2) := by
            rw [dec_int, Bool.eq_iff_iff, beq_iff_eq, decide_eq_true_eq]
            omega
          rw [d]
          by_cases h2 : vs0.length = 2
          case neg =>
            rw [decide_eq_false h2]
            refine iteT (iteT (no0 ?_))
            cases eB : isB (.tup ss) with
            | false => rfl
            | true =>
              obtain ⟨k, qs, e3, _⟩ := isB_iff.mp eB
              injection e3 with e3
              rw [e3] at ls
              exact absurd ls h2
          rw [decide_eq_true h2]
          refine iteF ?_
          match vs0, ss, hLL, h2, e, e6, hv6, hI, R, hsz, lsz, psz, nok, no0, hP with
          | [u0, u1], [s0, s1], .cons h0 (.cons h1 .nil), _, e, e6, hv6, hI, R, hsz, lsz, psz, nok, no0, hP =>
          refine ⟨_, rfl, _, _, _, _, rfl, rfl, SqT.of e6, rfl, _, _, _, _, rfl, rfl, (h0.same S6).ty, kS s0, _, rfl, ?_⟩
          cases h0 with
          | non => exact iteT (no0 rfl)
          | bl b => exact iteT (no0 rfl)
          | int i => exact iteT (no0 rfl)
          | lst e => exact iteT (no0 rfl)
          | dic e => exact iteT (no0 rfl)
          | tup e h => exact iteT (no0 rfl)
          | str kd =>
          refine iteF ?_
          refine run_next ?_
          dsimp only
          refine ⟨_, rfl, _, _, _, _, rfl, rfl, SqT.of e6, rfl, by show 2 ≤ sizeLine; decide, fun lk nlk => ?_⟩
          have S7 := same_new (o := .lst [.str "|", .str "-"]) nlk
          refine ⟨lk, _, rfl, .inl (SqL.of upd_same), rfl, rfl, _, rfl, ?_⟩
          have hla7 := S7 _ _ hla6
          have hln7 := S7 _ _ hln6
          have hP7 := hP6.same S7
          have S67 := S6.trans S7
          have nok7 : ∀ H8, Same (upd H6 lk (.lst [.str "|", .str "-"])) H8 → (HasK (.tup [.str kd, s1]) ab ∨ ∀ m, ¬ Good (.tup [.str kd, s1]) m) → Q (.bl false) H8 := fun H8 S8 => nok H8 (S7.trans S8)
          generalize upd H6 lk (.lst [.str "|", .str "-"]) = H7 at S7 hla7 hln7 hP7 S67 nok7
          have no7 : isB (.tup [.str kd, s1]) = false → Q (.bl false) H7 := fun h => nok7 H7 (Same.refl _) (.inr (no_good rfl h))
          have e7 := S67 _ _ e
          show (if (!inV (.str kd) [.str "|", .str "-"]) = true then _ else _)
          rw [notin_kinds]
          cases hk : isKb kd with
          | false =>
            refine iteT (iteT (no7 ?_))
            exact isB_no hk
          | true =>
          refine iteF ⟨_, rfl, _, _, _, _, rfl, rfl, SqT.of e7, rfl, _, rfl, rfl, _, rfl, ?_⟩
          by_cases hab : kd = ab
          case pos =>
            subst hab
            rw [decide_eq_true rfl]
            exact iteT (iteT (nok7 H7 (Same.refl _) (.inl ⟨s1, rfl⟩)))
          rw [decide_eq_false (fun z => hab (by injection z))]
          refine iteF ⟨_, rfl, _, _, _, _, rfl, rfl, SqT.of e7, rfl, _, _, _, _, rfl, rfl, (h1.same S67).ty, kT s1, _, rfl, ?_⟩
          cases h1 with
          | non => exact iteT (iteT (no7 rfl))
          | bl b => exact iteT (iteT (no7 rfl))
          | int i => exact iteT (iteT (no7 rfl))
          | str x => exact iteT (iteT (no7 rfl))
          | lst e => exact iteT (iteT (no7 rfl))
          | dic e => exact iteT (iteT (no7 rfl))
          | @tup b ws qs e2 hQ =>
          have lq := hQ.len
          refine iteF ⟨_, rfl, _, _, _, _, rfl, rfl, SqT.of e7, rfl, _, _, rfl, .inr (SqT.of (S67 _ _ e2)), _, _, rfl, rfl, _, rfl, ?_⟩
          by_cases l2 : 2 ≤ qs.length
          case neg =>
            rw [decide_eq_true (by omega)]
            refine iteT (no7 ?_)
            show (isKb kd && (decide (2 ≤ qs.length) && _)) = false
            rw [decide_eq_false l2, Bool.false_and, Bool.and_false]
          rw [decide_eq_false (by omega)]
          refine iteF ?_
          refine run_next ?_
          dsimp only
          have R8 := R.node (isKb_iff.mp hk) l2 hab
          have nsz := sz_node kd qs
          have ls1 := szL_len (ps'.map (·.1))
          have ls2 := szL_len qs
          rw [List.length_map] at ls1
          have lus := hP6.len
          refine ⟨_, rfl, _, _, _, _, rfl, rfl, SqT.of e7, rfl, b, rfl, ⟨_, SqT.of (S67 _ _ e2)⟩, ?_⟩
          refine for_tup (K := K) (a := b) (xs := ws) (fun i σ H8 => ∃ (us8 : List V) (o5 : Option V), σ = [some x, some (.ref la), some (.ref ln), some (.ref a), some (.str ab), o5] ∧ Same H H8 ∧ H8 ln = some (.lst (ns.map V.int)) ∧ H8 la = some (.lst us8) ∧ PisAt H H8 us8 (ps' ++ (qs.take i).map (·, kd)))
            ⟨us', _, rfl, S67, hln7, hla7, by simpa using hP7⟩ (fun i σ H8 _ ⟨_, _, _, S8, _⟩ => SqT.of (S8 _ _ e2)) ?_ ?_
          · rintro i y σ H8 hi ⟨us8, o5, rfl, S8, hln8, hla8, hP8⟩
            obtain ⟨r, er, hAr⟩ := hQ.get hi
            obtain ⟨hil, ev⟩ := List.getElem?_eq_some_iff.mp er
            refine run_gname ?_
            refine ⟨_, rfl, .inl ⟨rfl, _, SqL.of hla8⟩, _, rfl, _, rfl, _, _, _, _, rfl, rfl, SqT.of (S8 _ _ e), rfl, by show 2 ≤ sizeLine; decide, fun tq ntq => ?_⟩
            have St := same_new (o := .tup [y, .str kd]) ntq
            have hla9 := St _ _ hla8
            have l8 := hP8.len
            rw [List.length_append, List.length_map, List.length_take] at l8
            refine ⟨la, _, _, rfl, rfl, hla9, Nat.lt_of_le_of_lt (show us8.length ≤ 3000 by rw [lsz] at hsz; omega) (by decide), ?_⟩
            refine ⟨us8 ++ [.ref tq], _, rfl, same_upd (S8.trans St) fla, by rw [upd_ne nn.symm]; exact St _ _ hln8, upd_same, ?_⟩
            rw [← List.take_append_getElem hil, ev, List.map_append, ← List.append_assoc]
            refine ((hP8.same St).upd hla9).add ⟨tq, y, rfl, ?_, hAr⟩
            rw [upd_ne (fun z => by rw [z, hla8] at ntq; cases ntq), upd_same]
          · rintro σ H8 ⟨us8, o5, rfl, S8, hln8, hla8, hP8⟩
            rw [lq, List.take_length] at hP8
            have em : szL ((ps' ++ qs.map (·, kd)).map (·.1)) = szL (ps'.map (·.1)) + szL qs := by
              rw [List.map_append, szL_app, List.map_map]
              congr 2
              exact List.map_id qs
            exact ⟨_, by rw [em, lsz]; omega, us8, _, ns, _, _, _, rfl, rfl, S8, hln8, hla8, hP8, by rw [em]; rw [lsz] at hsz; omega, R8, l24⟩
end
end KU
set_option Elab.async false
set_option linter.all false
set_option maxRecDepth 100000
set_option maxHeartbeats 4000000
namespace Tre
open PySem
theorem Good.flat {t : T} {n : List Int} (g : Good t n) (k : Str) : ∃ ps nss, GoodL ps nss ∧ nss.flatten = n ∧ (∀ p ∈ ps, ¬ HasK p k) ∧ szL ps ≤ sz t ∧ 1 ≤ ps.length ∧ (t = .tup [.str k, .tup ps] ∨ (ps = [t] ∧ ((∃ i, t = .int i) ∨ ∃ k' qs, t = .tup [.str k', .tup qs] ∧ k' ≠ k))) := by
  cases g with
  | leaf i =>
    refine ⟨[.int i], [[i]], .cons (.leaf i) .nil, rfl, fun p hp => ?_, by simp only [szL]; omega, Nat.le_refl _, .inr ⟨rfl, .inl ⟨i, rfl⟩⟩⟩
    rw [List.mem_singleton.mp hp]
    rintro ⟨q, e⟩
    cases e
  | @node k' ps nss hk h2 hn h =>
    by_cases e : k' = k
    · subst e
      exact ⟨ps, nss, h, rfl, hn, by rw [sz_node]; omega, by omega, .inl rfl⟩
    · refine ⟨[.tup [.str k', .tup ps]], [nss.flatten], .cons (.node hk h2 hn h) .nil, by simp, fun p hp => ?_, by simp only [szL]; omega, Nat.le_refl _, .inr ⟨rfl, .inr ⟨k', ps, rfl, e⟩⟩⟩
      rw [List.mem_singleton.mp hp]
      rintro ⟨q, e2⟩
      injection e2 with e2
      injection e2 with e3 e4
      injection e3 with e3
      exact e e3
end Tre
namespace KU
open PySem L2 Tre PySem.W
def spAsked : Sp := fun vs H Q _ => ∃ (x : V) (t : T), vs = [x] ∧ At H x t ∧ sz t ≤ 1000 ∧ ∀ H', Same H H' → Q (.bl true) H'
def spJoin : Sp := fun vs H Q _ => ∃ (k : Str) (a b : V) (t1 t2 : T) (n1 n2 : List Int), vs = [.str k, a, b] ∧ isK k ∧ At H a t1 ∧ At H b t2 ∧ Good t1 n1 ∧ Good t2 n2 ∧ sz t1 + sz t2 ≤ 900 ∧
  ∀ (v : V) (t : T) (H' : Hp), Same H H' → At H' v t → Good t (n1 ++ n2) → sz t ≤ sz t1 + sz t2 + 3 → Q v H'
theorem AtL.knot {H : Hp} {vs : List V} {k : Str} {ps : List T} (h : AtL H vs [.str k, .tup ps]) : ∃ b ws, vs = [.str k, .ref b] ∧ H b = some (.tup ws) ∧ AtL H ws ps := by
  cases h with
  | cons h r =>
    cases h
    cases r with
    | cons h2 r2 =>
      cases r2
      cases h2 with
      | tup e hq => exact ⟨_, _, rfl, e, hq⟩
theorem strokes : ("|-" : Str) = txt [124, 45] := by decide +kernel
theorem stroke_at (i : Int) : ∃ c : Nat, atI [124, 45] (i % 2) = some c ∧ isK (txt [c]) := by
  rcases (show i % 2 = 0 ∨ i % 2 = 1 by omega) with e | e <;> rw [e]
  · exact ⟨124, rfl, .inl (by decide +kernel)⟩
  · exact ⟨45, rfl, .inr (by decide +kernel)⟩
section
variable {P : Program} {w : World} {K : PySem.W.Frag} {mg : Str → Option Value} {base : Heap} {kA : Addr}
theorem scJoin : FnScope ["kind", "one", "other", "parts", "tree"] ["kind", "one", "other"] (defScope sJoin) := ⟨rfl, rfl, rfl, by decide +kernel, rfl, by decide +kernel, by decide +kernel⟩
theorem ok_join {f : Addr} {fd : FuncData} (F : Fun K "_law_join" "_law_join" sJoin f fd) (Z : Nm K mg kA) : FnOk P w K mg base CX0 1 f fd ["kind", "one", "other"] spJoin := by
  obtain ⟨gKIND, gPARTS, gMOST_BOXES, gKINDS, kk, ti, tint, tbool, tstr, ttup, tlist, tl, tany, ts, tr, kI, kB, kS, kT⟩ := Z
  refine F.ok scJoin (fun vs H Q E h => ?_) (fun cdv A outer s H vs Q E hr h => ?_)
  · obtain ⟨k, a, b, t1, t2, n1, n2, rfl, _⟩ := h
    rfl
  · obtain ⟨k, a, b, t1, t2, n1, n2, rfl, hk, hA1, hA2, g1, g2, hz, q⟩ := h
    refine ⟨_, (pss_cons (ps_set (i := 3) scJoin.nd rfl (Or.inl rfl) (pe_lst pa_nil))
      (pss_cons (ps_for PassesOwn.never rfl (pi_tup (pe_tup (pa_cons (pv 1) (pa_cons (pv 2) pa_nil)))) (pg_name (i := 4) scJoin.nd rfl (Or.inl rfl))
      (pss_one (ps_if (PW.pt (pw_and (pt_val (pe_callB call_isi (by rfl) ti PyProof.Rows.boot_isinstance (pa_cons (pv 4) (pa_cons (pe_tyn rfl ttup PyProof.Rows.boot_tuple) pa_nil)))) (pw_and1 (pt_cmpR op_eq (pe_ix ix_tup (pv 4) pe_int (fun _ _ => rfl)) (pv 0) (nomark _)))))
        (pss_one (ps_expr (pe_bm PySem.F.plainAttrs_list PySem.F.slot_list_extend PySem.F.type_list_extend mt_extendT (pv 3) (pa_cons (pe_ix ix_tup (pv 4) pe_int (fun _ _ => rfl)) pa_nil))))
        (pss_one (ps_expr (pe_bm PySem.F.plainAttrs_list PySem.F.slot_list_append PySem.F.type_list_append mt_append (pv 3) (pa_cons (pv 4) pa_nil)))))))
      (pss_one (ps_ret (pe_tup (pa_cons (pv 0) (pa_cons (pe_callTy call_tuple_of rfl ttup PyProof.Rows.boot_tuple (pa_cons (pv 3) pa_nil)) pa_nil))))))), ?_⟩
    dsimp only
    refine ⟨by show 0 ≤ sizeLine; decide, fun lp nlp => ?_⟩
    have S1 := same_new (o := .lst []) nlp
    have h1 : (upd H lp (.lst [])) lp = some (.lst []) := upd_same
    generalize upd H lp (.lst []) = H1 at S1 h1
    dsimp only
    refine ⟨_, rfl, _, rfl, by show 2 ≤ sizeLine; decide, fun tp ntp => ?_⟩
    have S2 := S1.trans (same_new (o := .tup [a, b]) ntp)
    have h2 : (upd H1 tp (.tup [a, b])) tp = some (.tup [a, b]) := upd_same
    have h1 := same_new (o := .tup [a, b]) ntp _ _ h1
    generalize upd H1 tp (.tup [a, b]) = H2 at S2 h2 h1
    have nt : tp ≠ lp := ne_of h2 h1 (by intro z; cases z)
    refine ⟨tp, rfl, ⟨_, SqT.of h2⟩, ?_⟩
    refine for_tup (K := K) (a := tp) (xs := [a, b]) (fun i σ H3 => ∃ (us : List V) (ts : List T) (nss : List (List Int)) (o : Option V), σ = [some (.str k), some a, some b, some (.ref lp), o] ∧ Same H H3 ∧ H3 tp = some (.tup [a, b]) ∧ H3 lp = some (.lst us) ∧ AtL H us ts ∧ GoodL ts nss ∧ nss.flatten = ([n1, n2].take i).flatten ∧ (∀ p ∈ ts, ¬ HasK p k) ∧ szL ts ≤ szL ([t1, t2].take i) ∧ i ≤ ts.length)
      ⟨[], [], [], none, rfl, S2, h2, h1, .nil, .nil, rfl, fun p hp => (List.not_mem_nil hp).elim, Nat.le_refl _, Nat.le_refl _⟩ (fun i σ H3 _ ⟨_, _, _, _, _, _, e, _⟩ => SqT.of e) ?_ ?_
    · rintro i v σ H3 hi ⟨us, ts, nss, o, rfl, S3, ht3, hl3, hAL, hG, hf, hn, hs, hc⟩
      obtain ⟨t, n, eT, eN, hAv, g⟩ : ∃ t n, [t1, t2][i]? = some t ∧ [n1, n2][i]? = some n ∧ At H v t ∧ Good t n := by
        match i, hi with
        | 0, hi => exact ⟨t1, n1, rfl, rfl, by cases hi; exact hA1, g1⟩
        | 1, hi => exact ⟨t2, n2, rfl, rfl, by cases hi; exact hA2, g2⟩
      obtain ⟨ps, mss, gp, ef, hnp, hsp, lp1, alt⟩ := g.flat k
      have eT' : [t1, t2].take (i + 1) = [t1, t2].take i ++ [t] := by
        obtain ⟨hil, ev⟩ := List.getElem?_eq_some_iff.mp eT
        rw [← List.take_append_getElem hil, ev]
      have eN' : [n1, n2].take (i + 1) = [n1, n2].take i ++ [n] := by
        obtain ⟨hil, ev⟩ := List.getElem?_eq_some_iff.mp eN
        rw [← List.take_append_getElem hil, ev]
      have szs : szL ([t1, t2].take i) + sz t ≤ sz t1 + sz t2 := by
        match i, hi, eT with
        | 0, _, eT => cases eT; simp only [List.take, szL]; omega
        | 1, _, eT => cases eT; simp only [List.take, szL]; omega
      have z1 := szL_len ts
      have z2 := szL_len ps
      have lus := hAL.len
      have fin : ∀ (ws : List V), AtL H ws ps → ∃ (us' : List V) (ts : List T) (nss : List (List Int)) (o' : Option V), [some (.str k), some a, some b, some (.ref lp), some v] = [some (.str k), some a, some b, some (.ref lp), o'] ∧ Same H (upd H3 lp (.lst (us ++ ws))) ∧ (upd H3 lp (.lst (us ++ ws))) tp = some (.tup [a, b]) ∧ (upd H3 lp (.lst (us ++ ws))) lp = some (.lst us') ∧ AtL H us' ts ∧ GoodL ts nss ∧ nss.flatten = ([n1, n2].take (i + 1)).flatten ∧ (∀ p ∈ ts, ¬ HasK p k) ∧ szL ts ≤ szL ([t1, t2].take (i + 1)) ∧ i + 1 ≤ ts.length := fun ws hw => by
        refine ⟨us ++ ws, ts ++ ps, nss ++ mss, _, rfl, same_upd S3 nlp, by rw [upd_ne nt]; exact ht3, upd_same, hAL.app hw, hG.app gp, ?_, ?_, ?_, ?_⟩
        · rw [eN', List.flatten_append, List.flatten_append, hf, ef]
          simp
        · intro p hp
          rcases List.mem_append.mp hp with z | z
          · exact hn p z
          · exact hnp p z
        · rw [eT', szL_app, szL_app]
          simp only [szL]
          omega
        · rw [List.length_append]
          omega
      refine run_gname ?_
      refine ⟨_, rfl, _, _, _, _, rfl, rfl, (hAv.same S3).ty, kT t, _, rfl, ?_⟩
      rcases alt with rfl | ⟨rfl, ⟨j, rfl⟩ | ⟨k', qs, rfl, ne⟩⟩
      · cases hAv with
        | @tup a0 vs0 ss e hL =>
        obtain ⟨b0, ws, rfl, e2, hQ⟩ := hL.knot
        have lq := hQ.len
        refine iteT ⟨_, rfl, _, _, _, _, rfl, rfl, SqT.of (S3 _ _ e), rfl, _, rfl, rfl, _, rfl, ?_⟩
        rw [decide_eq_true rfl]
        refine iteT ⟨_, rfl, .inl ⟨rfl, _, SqL.of hl3⟩, _, rfl, _, _, _, _, rfl, rfl, SqT.of (S3 _ _ e), rfl, lp, _, _, _, rfl, rfl, hl3, SqT.of (S3 _ _ e2), Nat.le_trans (show _ ≤ 2000 by omega) (by decide), fin _ hQ⟩
      · cases hAv
        refine iteF (iteF ⟨_, rfl, .inl ⟨rfl, _, SqL.of hl3⟩, _, rfl, lp, _, _, rfl, rfl, hl3, Nat.lt_of_le_of_lt (show _ ≤ 2000 by omega) (by decide), fin _ (.cons (.int _) .nil)⟩)
      · cases hAv with
        | @tup a0 vs0 ss e hL =>
        obtain ⟨b0, ws, rfl, e2, hQ⟩ := hL.knot
        refine iteT ⟨_, rfl, _, _, _, _, rfl, rfl, SqT.of (S3 _ _ e), rfl, _, rfl, rfl, _, rfl, ?_⟩
        rw [decide_eq_false (fun z => ne (by injection z))]
        exact iteF ⟨_, rfl, .inl ⟨rfl, _, SqL.of hl3⟩, _, rfl, lp, _, _, rfl, rfl, hl3, Nat.lt_of_le_of_lt (show _ ≤ 2000 by omega) (by decide), fin _ (.cons (.tup e hL) .nil)⟩
    · rintro σ H3 ⟨us, ts, nss, o, rfl, S3, ht3, hl3, hAL, hG, hf, hn, hs, hc⟩
      refine ⟨_, rfl, _, rfl, lp, us, rfl, .inl ⟨SqL.of hl3, fun p np => ⟨by show 2 ≤ sizeLine; decide, fun r nr => ?_⟩⟩⟩
      have Sp := same_new (o := .tup us) np
      have hp : (upd H3 p (.tup us)) p = some (.tup us) := upd_same
      generalize upd H3 p (.tup us) = H4 at Sp hp nr
      have Sr := same_new (o := .tup [.str k, .ref p]) nr
      have S := (S3.trans Sp).trans Sr
      refine q (.ref r) (.tup [.str k, .tup ts]) _ S (.tup upd_same (.cons (.str _) (.cons (.tup (Sr _ _ hp) (hAL.same S)) .nil))) ?_ ?_
      · have := Good.node hk hc hn hG
        rw [hf] at this
        simpa using this
      · rw [sz_node]
        have hs : szL ts ≤ szL [t1, t2] := hs
        simp only [szL] at hs
        omega
end
end KU
set_option Elab.async false
set_option linter.all false
set_option maxRecDepth 100000
set_option maxHeartbeats 4000000
namespace Tre
open PySem
theorem GoodL.ints : ∀ ns : List Int, GoodL (ns.map T.int) (ns.map fun i => [i])
  | [] => .nil
  | n :: ns => .cons (.leaf n) (GoodL.ints ns)
theorem flat_ones : ∀ ns : List Int, (ns.map fun i => [i]).flatten = ns
  | [] => rfl
  | n :: ns => by
    show [n] ++ (ns.map fun i => [i]).flatten = n :: ns
    rw [flat_ones ns]
    rfl
theorem szL_ints : ∀ ns : List Int, szL (ns.map T.int) = ns.length
  | [] => rfl
  | n :: ns => by
    show sz (.int n) + szL (ns.map T.int) = ns.length + 1
    rw [szL_ints ns]
    simp only [sz]
    omega
end Tre
namespace KU
open PySem L2 Tre PySem.W
theorem cutV_drop (xs : List V) (k : Nat) (h : k ≤ xs.length) : cutV xs (some (k : Int)) none = xs.drop k := by
  unfold cutV
  rw [HT.sIx_none, HT.sIx_nat, Nat.min_eq_left h]
  exact List.take_of_length_le (by rw [List.length_drop]; exact Nat.le_refl _)
theorem cutV_take (xs : List V) (k : Nat) (h : k ≤ xs.length) : cutV xs none (some (k : Int)) = xs.take k := by
  unfold cutV
  rw [HT.sIx_none, HT.sIx_nat, Nat.min_eq_left h]
  rfl
theorem cut_ints (ns : List Int) (lo hi : Option Int) : ∃ ms : List Int, cutV (ns.map V.int) lo hi = ms.map V.int := by
  unfold cutV
  exact ⟨_, by rw [← List.map_drop, ← List.map_take]⟩
theorem erase_map {α β : Type} (f : α → β) : ∀ (l : List α) (k : Nat), (l.map f).eraseIdx k = (l.eraseIdx k).map f
  | [], _ => rfl
  | _ :: _, 0 => rfl
  | x :: l, k + 1 => by
    show f x :: (l.map f).eraseIdx k = f x :: (l.eraseIdx k).map f
    rw [erase_map f l k]
theorem erase_perm {α : Type} : ∀ {l : List α} {k : Nat} (h : k < l.length), (l[k] :: l.eraseIdx k).Perm l
  | _ :: _, 0, _ => .refl _
  | x :: l, k + 1, h => by
    show (l[k]'(by simpa using h) :: x :: l.eraseIdx k).Perm (x :: l)
    exact (List.Perm.swap _ _ _).trans ((erase_perm (l := l) (k := k) (by simpa using h)).cons x)
theorem AtL.ints {H : Hp} : ∀ ns : List Int, AtL H (ns.map V.int) (ns.map T.int)
  | [] => .nil
  | n :: ns => .cons (.int n) (AtL.ints ns)
theorem AtL.split {H : Hp} : ∀ {a b : List T} {vs : List V}, AtL H vs (a ++ b) → ∃ x y, vs = x ++ y ∧ AtL H x a ∧ AtL H y b
  | [], b, vs, h => ⟨[], vs, rfl, .nil, h⟩
  | t :: a, b, _, .cons h r => by
    obtain ⟨x, y, e, h1, h2⟩ := AtL.split (a := a) (b := b) r
    exact ⟨_ :: x, y, by rw [e]; rfl, .cons h h1, h2⟩
def spLtree : Sp := fun vs H Q _ => ∃ (a : Addr) (cs : List Int), vs = [.ref a] ∧ H a = some (.lst (cs.map V.int)) ∧ cs.length ≤ 23 ∧ ∀ (v : V) (t : T) (n : List Int) (H' : Hp), Same H H' → At H' v t → Good t n → n.Perm (up (cs.length + 1)) → sz t ≤ 100 → Q v H'
section
variable {P : Program} {w : World} {K : PySem.W.Frag} {mg : Str → Option Value} {base : Heap} {kA : Addr}
theorem scLtree : FnScope ["cells", "left", "items", "cell", "at", "tree"] ["cells"] (defScope sLtree) := ⟨rfl, rfl, rfl, by decide +kernel, rfl, by decide +kernel, by decide +kernel⟩
theorem ok_ltree {f fJ : Addr} {fd fdJ : FuncData} (F : Fun K "_law_tree" "_law_tree" sLtree f fd) (Z : Nm K mg kA) (Jo : Callee P w K mg base CX0 1 "_law_join" fJ fdJ ["kind", "one", "other"] spJoin) : FnOk P w K mg base CX0 2 f fd ["cells"] spLtree := by
  obtain ⟨gKIND, gPARTS, gMOST_BOXES, gKINDS, kk, ti, tint, tbool, tstr, ttup, tlist, tl, tany, ts, tr, kI, kB, kS, kT⟩ := Z
  refine F.ok scLtree (fun vs H Q E h => ?_) (fun cdv A outer s H vs Q E hr h => ?_)
  · obtain ⟨a, cs, rfl, _⟩ := h
    rfl
  · obtain ⟨a, cs, rfl, hA, h23, q⟩ := h
    refine ⟨_, (pss_cons (ps_set (i := 1) scLtree.nd rfl (Or.inl rfl) (pe_listRange rfl rfl tlist rfl tr (pa_cons (pe_op op_add (pe_callB call_len_seq (by rfl) tl PySem.boot_len (pa_cons (pv 0) pa_nil)) pe_int) pa_nil)))
      (pss_cons (ps_set (i := 2) scLtree.nd rfl (Or.inl rfl) (pe_lst pa_nil))
      (pss_cons (ps_for PassesOwn.never rfl (pi_list (pe_op op_cat (pv 0) (pe_lst (pa_cons pe_int pa_nil)))) (pg_name (i := 3) scLtree.nd rfl (Or.inl rfl))
      (pss_one (ps_expr (pe_bm PySem.F.plainAttrs_list PySem.F.slot_list_append PySem.F.type_list_append mt_append (pv 2) (pa_cons (pe_bm PySem.F.plainAttrs_list PySem.F.slot_list_pop PySem.F.type_list_pop mt_popAt (pv 1) (pa_cons (pe_op op_mod (pe_op op_fdiv (pv 3) pe_int) (pe_callB call_len_seq (by rfl) tl PySem.boot_len (pa_cons (pv 1) pa_nil))) pa_nil)) pa_nil)))))
      (pss_cons (ps_for PassesOwn.never rfl (pi_list (pv 0)) (pg_name (i := 3) scLtree.nd rfl (Or.inl rfl))
      (pss_cons (ps_set (i := 4) scLtree.nd rfl (Or.inl rfl) (pe_op op_mod (pe_op op_fdiv (pv 3) pe_int) (pe_op op_sub (pe_callB call_len_seq (by rfl) tl PySem.boot_len (pa_cons (pv 2) pa_nil)) pe_int)))
        (pss_cons (ps_set (i := 5) scLtree.nd rfl (Or.inl rfl) (pe_call Jo.ok hr rfl Jo.bound Jo.kp Jo.bd .nil pass0 (pa_cons (pe_ix ix_sign pe_str (pe_op op_mod (pv 3) pe_int) (fun _ _ => rfl)) (pa_cons (pe_ix ix_list (pv 2) (pv 4) (fun _ _ => rfl)) (pa_cons (pe_ix ix_list (pv 2) (pe_op op_add (pv 4) pe_int) (fun _ _ => rfl)) pa_nil)))))
        (pss_one (ps_set (i := 2) scLtree.nd rfl (Or.inl rfl) (pe_op op_cat (pe_op op_cat (pe_slice sl_list (pv 2) po_none (po_some (pv 4))) (pe_lst (pa_cons (pv 5) pa_nil))) (pe_slice sl_list (pv 2) (po_some (pe_op op_add (pv 4) pe_int)) po_none)))))))
      (pss_one (ps_ret (pe_ix ix_list (pv 2) pe_int (fun _ _ => rfl)))))))), ?_⟩
    refine ⟨_, rfl, _, _, rfl, .inl (SqL.of hA), _, _, rfl, rfl, cs.length + 1, by rw [List.length_map]; rfl, by omega, fun ll nll => ?_⟩
    have S1 := same_new (o := .lst ((List.range (cs.length + 1)).map fun i : Nat => V.int i)) nll
    have h1 : (upd H ll (.lst ((List.range (cs.length + 1)).map fun i : Nat => V.int i))) ll = some (.lst ((up (cs.length + 1)).map V.int)) := by
      rw [upd_same]
      unfold up
      rw [List.map_map]
      rfl
    generalize upd H ll (.lst ((List.range (cs.length + 1)).map fun i : Nat => V.int i)) = H1 at S1 h1
    dsimp only
    refine ⟨by show 0 ≤ sizeLine; decide, fun li nli => ?_⟩
    have fli : H li = none := S1.free nli
    have S2 := S1.trans (same_new (o := .lst []) nli)
    have h2 : (upd H1 li (.lst [])) li = some (.lst []) := upd_same
    have h1 := same_new (o := .lst []) nli _ _ h1
    have nn : ll ≠ li := ne_of_none ‹_› nli
    generalize upd H1 li (.lst []) = H2 at S2 h2 h1
    dsimp only
    refine ⟨_, rfl, by show 1 ≤ sizeLine; decide, fun pl npl => ?_⟩
    have S3 := S2.trans (same_new (o := .lst [.int 0]) npl)
    have h3 : (upd H2 pl (.lst [.int 0])) pl = some (.lst [.int 0]) := upd_same
    have h1 := same_new (o := .lst [.int 0]) npl _ _ h1
    have h2 := same_new (o := .lst [.int 0]) npl _ _ h2
    generalize upd H2 pl (.lst [.int 0]) = H3 at S3 h3 h1 h2
    refine ⟨a, pl, _, _, rfl, rfl, S3 _ _ hA, h3, by rw [List.length_map]; exact Nat.le_trans (show _ ≤ 24 by simp; omega) (by decide), fun pc npc => ?_⟩
    have S4 := S3.trans (same_new (o := .lst (cs.map V.int ++ [.int 0])) npc)
    have h4 : (upd H3 pc (.lst (cs.map V.int ++ [.int 0]))) pc = some (.lst ((cs ++ [0]).map V.int)) := by rw [upd_same, List.map_append]; rfl
    have n1 : pc ≠ ll := (ne_of_none h1 npc).symm
    have n2 : pc ≠ li := (ne_of_none h2 npc).symm
    have h1 := same_new (o := .lst (cs.map V.int ++ [.int 0])) npc _ _ h1
    have h2 := same_new (o := .lst (cs.map V.int ++ [.int 0])) npc _ _ h2
    generalize upd H3 pc (.lst (cs.map V.int ++ [.int 0])) = H4 at S4 h4 h1 h2
    refine ⟨pc, rfl, ⟨_, SqL.of h4⟩, ?_⟩
    refine for_list (K := K) (a := pc) (xs := (cs ++ [0]).map V.int) (fun i σ H5 => ∃ (us ls : List Int) (o : Option V), σ = [some (.ref a), some (.ref ll), some (.ref li), o, none, none] ∧ Same H H5 ∧ H5 pc = some (.lst ((cs ++ [0]).map V.int)) ∧ H5 ll = some (.lst (ls.map V.int)) ∧ H5 li = some (.lst (us.map V.int)) ∧ (us ++ ls).Perm (up (cs.length + 1)) ∧ us.length = i)
      ⟨[], _, none, rfl, S4, h4, h1, h2, .refl _, rfl⟩ (fun i σ H5 _ ⟨_, _, _, _, _, e, _⟩ => SqL.of e) ?_ ?_
    · rintro i v σ H5 hi ⟨us, ls, o, rfl, S5, hpc, hll, hli, pm, lu⟩
      rw [List.getElem?_map] at hi
      obtain ⟨c, hc, rfl⟩ := Option.map_eq_some_iff.mp hi
      have hi2 := (List.getElem?_eq_some_iff.mp hc).1
      rw [List.length_append, List.length_singleton] at hi2
      have ln := pm.length_eq
      rw [List.length_append, up_len] at ln
      have l0 : 0 < ls.length := by omega
      refine run_gname ?_
      have b0 := Int.emod_nonneg (c / 64) (show (ls.length : Int) ≠ 0 by omega)
      have b1 := Int.emod_lt_of_pos (c / 64) (show (0 : Int) < ls.length by omega)
      obtain ⟨k, hk⟩ := Int.eq_ofNat_of_zero_le b0
      have kl : k < ls.length := by omega
      refine ⟨_, rfl, .inl ⟨rfl, _, SqL.of hli⟩, _, rfl, .inl ⟨rfl, _, SqL.of hll⟩, _, rfl, _, _, rfl, rfl, (show CDiv c 64 from ⟨by decide, by decide⟩), _, rfl, _, _, rfl, .inl (SqL.of hll), _, _, rfl, rfl, by rw [List.length_map]; omega, ?_⟩
      have hk' : (c / 64) % (((ls.map V.int).length : Nat) : Int) = k := by rw [List.length_map]; exact hk
      refine ⟨ll, ls.map V.int, k, k, .int ls[k], rfl, congrArg (fun z => [V.int z]) hk', hll, by omega, by omega, ?_, by rw [List.getElem?_map, List.getElem?_eq_getElem kl]; rfl, ?_⟩
      · rw [List.length_map]
        have z := PySem.StrLaws.seqIndex_nonneg (i := (k : Int)) (n := ls.length) (by omega) (by omega)
        exact z
      · have S6 : Same H (upd H5 ll (.lst ((ls.map V.int).eraseIdx k))) := same_upd S5 nll
        have k1 : (upd H5 ll (.lst ((ls.map V.int).eraseIdx k))) ll = some (.lst ((ls.eraseIdx k).map V.int)) := by rw [upd_same, erase_map]
        have k2 : (upd H5 ll (.lst ((ls.map V.int).eraseIdx k))) li = some (.lst (us.map V.int)) := by rw [upd_ne nn.symm]; exact hli
        have k3 : (upd H5 ll (.lst ((ls.map V.int).eraseIdx k))) pc = some (.lst ((cs ++ [0]).map V.int)) := by rw [upd_ne n1]; exact hpc
        generalize upd H5 ll (.lst ((ls.map V.int).eraseIdx k)) = H6 at S6 k1 k2 k3
        refine ⟨li, _, _, rfl, rfl, k2, by rw [List.length_map]; exact Nat.lt_of_le_of_lt (show _ ≤ 24 by omega) (by decide), ?_⟩
        refine ⟨us ++ [ls[k]], ls.eraseIdx k, _, rfl, same_upd S6 fli, by rw [upd_ne n2]; exact k3, by rw [upd_ne nn]; exact k1, by rw [upd_same, List.map_append]; rfl, ?_, by rw [List.length_append, lu]; rfl⟩
        rw [List.append_assoc]
        exact ((erase_perm kl).append_left us).trans pm
    · rintro σ H5 ⟨us, ls, o, rfl, S5, hpc, hll, hli, pm, lu⟩
      rw [List.length_map, List.length_append, List.length_singleton] at lu
      have ln := pm.length_eq
      rw [List.length_append, up_len] at ln
      have el : ls = [] := List.eq_nil_of_length_eq_zero (by omega)
      rw [el, List.append_nil] at pm
      dsimp only
      refine ⟨_, rfl, a, rfl, ⟨_, SqL.of (S5 _ _ hA)⟩, ?_⟩
      refine for_list (K := K) (a := a) (xs := cs.map V.int) (fun i σ H6 => ∃ (lj : Addr) (us : List V) (ts : List T) (nss : List (List Int)) (o3 o4 o5 : Option V), σ = [some (.ref a), some (.ref ll), some (.ref lj), o3, o4, o5] ∧ Same H H6 ∧ H6 lj = some (.lst us) ∧ AtL H6 us ts ∧ GoodL ts nss ∧ nss.flatten.Perm (up (cs.length + 1)) ∧ ts.length + i = cs.length + 1 ∧ szL ts ≤ cs.length + 1 + 3 * i)
        ⟨li, us.map V.int, us.map T.int, us.map fun i => [i], o, none, none, rfl, S5, hli, .ints us, .ints us, by rw [flat_ones]; exact pm, by rw [List.length_map, lu], by rw [szL_ints, lu]; exact Nat.le_refl _⟩ (fun i σ H6 _ ⟨_, _, _, _, _, _, _, _, S6, _⟩ => SqL.of (S6 _ _ hA)) ?_ ?_
      · rintro i v σ H6 hi ⟨lj, us, ts, nss, o3, o4, o5, rfl, S6, hlj, hL, hG, pm, hlen, hs⟩
        rw [List.getElem?_map] at hi
        obtain ⟨c, hc, rfl⟩ := Option.map_eq_some_iff.mp hi
        have hi2 := (List.getElem?_eq_some_iff.mp hc).1
        have lL := hL.len
        refine run_gname ?_
        have b0 := Int.emod_nonneg (c / 2) (show ((us.length : Int) - 1) ≠ 0 by omega)
        have b1 := Int.emod_lt_of_pos (c / 2) (show (0 : Int) < (us.length : Int) - 1 by omega)
        obtain ⟨k, hk⟩ := Int.eq_ofNat_of_zero_le b0
        refine ⟨_, rfl, _, _, rfl, rfl, (show CDiv c 2 from ⟨by decide, by decide⟩), _, rfl, _, _, rfl, .inl (SqL.of hlj), _, _, rfl, rfl, _, _, rfl, rfl, by omega, ?_⟩
        dsimp only
        rw [hk]
        obtain ⟨A, t1, t2, B, rfl, lA⟩ : ∃ A t1 t2 B, ts = A ++ (t1 :: t2 :: B) ∧ A.length = k := by
          refine ⟨ts.take k, ts[k]'(by omega), ts[k+1]'(by omega), ts.drop (k + 2), ?_, by rw [List.length_take]; omega⟩
          rw [List.getElem_cons_drop, List.getElem_cons_drop, List.take_append_drop]
        obtain ⟨ua, ur, rfl, hua, hur⟩ := hL.split
        obtain ⟨x, nr, rfl, gA, gr⟩ := hG.split
        have la := hua.len
        cases hur with
        | @cons v1 _ ur1 _ hv1 hur =>
        cases hur with
        | @cons v2 _ ub _ hv2 hub =>
        cases gr with
        | @cons _ m1 _ _ g1 gr =>
        cases gr with
        | @cons _ m2 _ nB g2 gB =>
        obtain ⟨cc, hcc, hkk⟩ := stroke_at c
        have e1 : atI (ua ++ v1 :: v2 :: ub) (k : Int) = some v1 := atI_nat (by rw [List.getElem?_append_right (by omega), show k - ua.length = 0 by omega]; rfl)
        have e2 : atI (ua ++ v1 :: v2 :: ub) ((k : Int) + 1) = some v2 := atI_nat (j := k + 1) (by rw [List.getElem?_append_right (by omega), show k + 1 - ua.length = 1 by omega]; rfl)
        rw [szL_app] at hs
        simp only [szL] at hs
        refine ⟨_, rfl, _, _, rfl, rfl, (show (0 : Int) < 2 by decide), [124, 45], _, cc, congrArg V.str strokes, rfl, by decide, hcc, _, rfl, _, rfl, _, _, _, _, rfl, rfl, SqL.of hlj, e1, _, rfl, _, rfl, _, _, rfl, rfl, _, _, _, _, rfl, rfl, SqL.of hlj, e2, _, v1, v2, t1, t2, m1, m2, rfl, hkk, hv1, hv2, g1, g2, by omega, fun v t H7 S7 hv gt zt => ?_⟩
        dsimp only
        have c1 : cutV (ua ++ v1 :: v2 :: ub) none (some (k : Int)) = ua := by
          rw [cutV_take _ k (by rw [List.length_append]; omega), ← la.trans lA, List.take_left']
          rfl
        have c2 : cutV (ua ++ v1 :: v2 :: ub) (some ((k : Int) + 2)) none = ub := by
          have z := cutV_drop (ua ++ v1 :: v2 :: ub) (k + 2) (by rw [List.length_append, List.length_cons, List.length_cons]; omega)
          have d : (ua ++ v1 :: v2 :: ub).drop (k + 2) = ub := by
            rw [List.drop_append, List.drop_of_length_le (by omega), show k + 2 - ua.length = 2 by omega]
            rfl
          rw [d] at z
          exact z
        refine ⟨_, rfl, _, rfl, _, rfl, lj, _, rfl, SqL.of (S7 _ _ hlj), fun p1 np1 => ?_⟩
        rw [c1]
        have Sa := same_new (o := .lst ua) np1
        have ka : (upd H7 p1 (.lst ua)) p1 = some (.lst ua) := upd_same
        generalize upd H7 p1 (.lst ua) = H8 at Sa ka
        refine ⟨_, rfl, by show 1 ≤ sizeLine; decide, fun p2 np2 => ?_⟩
        have Sb := same_new (o := .lst [v]) np2
        have kb : (upd H8 p2 (.lst [v])) p2 = some (.lst [v]) := upd_same
        have ka := Sb _ _ ka
        generalize upd H8 p2 (.lst [v]) = H9 at Sb kb ka
        have lB := hub.len
        rw [List.length_append, List.length_cons, List.length_cons] at hlen
        refine ⟨p1, p2, _, _, rfl, rfl, ka, kb, Nat.le_trans (show _ ≤ 100 by simp; omega) (by decide), fun p3 np3 => ?_⟩
        have Sc := same_new (o := .lst (ua ++ [v])) np3
        have kc : (upd H9 p3 (.lst (ua ++ [v]))) p3 = some (.lst (ua ++ [v])) := upd_same
        generalize upd H9 p3 (.lst (ua ++ [v])) = H10 at Sc kc
        refine ⟨_, rfl, _, rfl, _, _, rfl, rfl, _, rfl, lj, _, rfl, SqL.of (Sc _ _ (Sb _ _ (Sa _ _ (S7 _ _ hlj)))), fun p4 np4 => ?_⟩
        rw [c2]
        have Sd := same_new (o := .lst ub) np4
        have kd : (upd H10 p4 (.lst ub)) p4 = some (.lst ub) := upd_same
        have kc := Sd _ _ kc
        generalize upd H10 p4 (.lst ub) = H11 at Sd kd kc
        refine ⟨p3, p4, _, _, rfl, rfl, kc, kd, Nat.le_trans (show _ ≤ 100 by simp; omega) (by decide), fun p5 np5 => ?_⟩
        have Se := same_new (o := .lst (ua ++ [v] ++ ub)) np5
        have SS := Sa.trans (Sb.trans (Sc.trans (Sd.trans Se)))
        have SS7 := S7.trans SS
        refine ⟨p5, ua ++ [v] ++ ub, A ++ [t] ++ B, x ++ [m1 ++ m2] ++ nB, _, _, _, rfl, S6.trans SS7, upd_same, ((hua.same SS7).app (.cons (hv.same SS) .nil)).app (hub.same SS7), (gA.app (.cons gt .nil)).app gB, ?_, ?_, ?_⟩
        · have z : (x ++ [m1 ++ m2] ++ nB).flatten = (x ++ m1 :: m2 :: nB).flatten := by simp
          rw [z]
          exact pm
        · rw [List.length_append, List.length_append, List.length_singleton]
          omega
        · rw [szL_app, szL_app]
          simp only [szL]
          omega
      · rintro σ H6 ⟨lj, us, ts, nss, o3, o4, o5, rfl, S6, hlj, hL, hG, pm, hlen, hs⟩
        rw [List.length_map] at hlen hs
        obtain ⟨t, rfl⟩ := List.length_eq_one_iff.mp (show ts.length = 1 by omega)
        obtain ⟨n, rfl, g⟩ := GoodL.one hG
        cases hL with
        | @cons v _ _ _ hv hr =>
        cases hr
        refine ⟨_, rfl, _, _, _, _, rfl, rfl, SqL.of hlj, rfl, q v t n H6 S6 hv g (by simpa using pm) ?_⟩
        simp only [szL] at hs
        omega
end
end KU
set_option Elab.async false
set_option linter.all false
set_option maxRecDepth 100000
namespace L2
open PySem PySem.Spec PyProof.Rows
section
variable {X : Cx}
def rCatN (K : PySem.W.Frag) : R2 := fun x y H Q => ∃ a b xs ys, x = .ref a ∧ y = .ref b ∧ SqT K H a xs ∧ SqT K H b ys ∧ xs.length + ys.length ≤ sizeLine ∧
  (xs = [] → Q (.ref b) H) ∧ (xs ≠ [] → ys = [] → Q (.ref a) H) ∧ (xs ≠ [] → ys ≠ [] → ∀ p, H p = none → Q (.ref p) (upd H p (.tup (xs ++ ys))))
theorem op_catN : OpR X (binaryOp .Add) (rCatN X.K) := by
  intro pins s σ H x y v u Q I rx ry h
  obtain ⟨a, b, xs, ys, rfl, rfl, ha, hb, hz, q0, q1, q2⟩ := h
  by_cases hx : xs = []
  · cases rx
    cases ry
    obtain ⟨its, r1, p1, _⟩ := I.tuple ha
    obtain ⟨its2, r2, p2, _⟩ := I.tuple hb
    obtain ⟨⟨cls, dd, data, sl⟩, ho, hc, n, hd⟩ := id p1
    obtain ⟨⟨cls2, dd2, data2, sl2⟩, ho2, hc2, n2, hd2⟩ := id p2
    simp only at hc hd hc2 hd2
    subst hc hd hc2 hd2
    exact concat_meets ⟨_, ho, rfl⟩ ⟨_, ho2, rfl⟩ noFill_tuple_add seq_tuple_add PySem.F.slot_tuple_add PySem.F.entry_tuple_add (PySem.F.args_tuple_add_2 _ _)
      (tuple_addW0 a b its.toArray its2.toArray n n2 dd dd2 sl sl2 (by simp [r1.nil_iff.mpr hx])) ⟨ho, ho2, ⟨.ref b, H, I, rfl, q0 hx⟩⟩
  · exact op_catT pins s σ H _ _ v u Q I rx ry ⟨a, b, xs, ys, rfl, rfl, ha, hb, hx, hz, q1 hx, q2 hx⟩
theorem cat_to {K : PySem.W.Frag} {H : Hp} {a b : Addr} {xs ys : List V} {Q : VK} (ha : H a = some (.tup xs)) (hb : H b = some (.tup ys)) (hz : xs.length + ys.length ≤ sizeLine)
    (q : ∀ r H', (∀ c u, H c = some u → H' c = some u) → H' r = some (.tup (xs ++ ys)) → Q (.ref r) H') : rCatN K (.ref a) (.ref b) H Q := by
  refine ⟨a, b, xs, ys, rfl, rfl, SqT.of ha, SqT.of hb, hz, fun e => ?_, fun _ e => ?_, fun _ _ p np => ?_⟩
  · subst e
    exact q b H (fun _ _ z => z) hb
  · subst e
    exact q a H (fun _ _ z => z) (by rw [List.append_nil]; exact ha)
  · exact q p _ (fun c u z => by rw [upd_ne (fun e => by rw [e, np] at z; cases z)]; exact z) upd_same
end
end L2
set_option Elab.async false
set_option linter.all false
set_option maxRecDepth 100000
set_option maxHeartbeats 4000000
namespace Tre
open PySem
def Way : T → List Nat → T → Prop
  | t, [], p => t = p
  | t, k :: w, p => ∃ kd ps q, t = .tup [.str kd, .tup ps] ∧ ps[k]? = some q ∧ Way q w p
theorem Way.snoc : ∀ {w : List Nat} {t : T} {kd : Str} {ps : List T} {k : Nat} {p : T}, Way t w (.tup [.str kd, .tup ps]) → ps[k]? = some p → Way t (w ++ [k]) p
  | [], t, kd, ps, k, p, h, e => ⟨kd, ps, p, h, e, rfl⟩
  | j :: w, t, kd, ps, k, p, ⟨kd', ps', q, e1, e2, h⟩, e => ⟨kd', ps', q, e1, e2, h.snoc e⟩
theorem szL_get : ∀ {ps : List T} {k : Nat} {q : T}, ps[k]? = some q → sz q ≤ szL ps
  | [], _, _, e => by simp at e
  | p :: ps, 0, q, e => by
    simp at e
    subst e
    simp only [szL]
    omega
  | p :: ps, k + 1, q, e => by
    have := szL_get (ps := ps) (k := k) (q := q) (by simpa using e)
    simp only [szL]
    omega
theorem Way.len : ∀ {w : List Nat} {t p : T}, Way t w p → w.length + sz p ≤ sz t
  | [], t, p, h => by
    have h : t = p := h
    rw [h]
    simp
  | k :: w, t, p, ⟨kd, ps, q, e1, e2, h⟩ => by
    have := h.len
    have := szL_get e2
    have := sz_node kd ps
    rw [e1, List.length_cons]
    omega
mutual
def cnt : T → Nat
  | .tup ts => cntL ts
  | .int _ => 1
  | .non => 0
  | .bl _ => 0
  | .str _ => 0
  | .lst => 0
  | .dic => 0
def cntL : List T → Nat
  | [] => 0
  | t :: r => cnt t + cntL r
end
theorem cntL_app : ∀ (a b : List T), cntL (a ++ b) = cntL a + cntL b
  | [], b => by simp only [List.nil_append, cntL]; omega
  | t :: a, b => by
    simp only [List.cons_append, cntL]
    rw [cntL_app a b]
    omega
theorem cnt_node (k : Str) (ps : List T) : cnt (.tup [.str k, .tup ps]) = cntL ps := by
  simp only [cnt, cntL]
  omega
mutual
theorem Good.cnt : ∀ {t : T} {n : List Int}, Good t n → Tre.cnt t = n.length
  | _, _, .leaf i => by simp [Tre.cnt]
  | _, _, .node (k := k) (ps := ps) hk h2 hn h => by rw [cnt_node, GoodL.cnt h]
theorem GoodL.cnt : ∀ {ts : List T} {nss : List (List Int)}, GoodL ts nss → cntL ts = nss.flatten.length
  | _, _, .nil => by simp [cntL]
  | _, _, .cons h r => by
    rw [List.flatten_cons, List.length_append, ← h.cnt, ← GoodL.cnt r]
    simp only [cntL]
end
theorem GoodL.mem : ∀ {ts : List T} {nss : List (List Int)}, GoodL ts nss → ∀ p ∈ ts, ∃ n, Good p n
  | _, _, .nil, p, hp => (List.not_mem_nil hp).elim
  | _, _, .cons h r, p, hp => by
    rcases List.mem_cons.mp hp with e | e
    · rw [e]
      exact ⟨_, h⟩
    · exact r.mem p e
end Tre
namespace KU
open PySem L2 Tre PySem.W
def nums (w : List Nat) : List V := w.map fun k : Nat => V.int k
def KnAt (H H3 : Hp) (la lf : Addr) (t : T) (u : V) (p : T) : Prop := ∃ (a : Addr) (v : V) (lw : Addr) (w : List Nat), u = .ref a ∧ H3 a = some (.tup [v, .ref lw]) ∧ At H v p ∧ H3 lw = some (.lst (nums w)) ∧ lw ≠ la ∧ lw ≠ lf ∧ Way t w p ∧ w.length ≤ 100 ∧ ∃ n, Good p n
def KnsAt (H H3 : Hp) (la lf : Addr) (t : T) : List V → List T → Prop := Paired (KnAt H H3 la lf t)
theorem KnAt.same {H H3 H4 : Hp} {la lf : Addr} {t : T} (S : Same H3 H4) {u : V} {p : T} : KnAt H H3 la lf t u p → KnAt H H4 la lf t u p := fun ⟨a, v, lw, w, e, z, h, y, r⟩ => ⟨a, v, lw, w, e, S _ _ z, h, S _ _ y, r⟩
theorem KnAt.updA {H H3 : Hp} {la lf : Addr} {t : T} {xs : List V} {o' : HO} (hl : H3 la = some (.lst xs)) {u : V} {p : T} : KnAt H H3 la lf t u p → KnAt H (upd H3 la o') la lf t u p := fun ⟨a, v, lw, w, e, z, h, y, n1, r⟩ => ⟨a, v, lw, w, e, by rw [upd_ne (ne_of z hl (by intro q; cases q))]; exact z, h, by rw [upd_ne n1]; exact y, n1, r⟩
theorem KnAt.updF {H H3 : Hp} {la lf : Addr} {t : T} {xs : List V} {o' : HO} (hl : H3 lf = some (.lst xs)) {u : V} {p : T} : KnAt H H3 la lf t u p → KnAt H (upd H3 lf o') la lf t u p := fun ⟨a, v, lw, w, e, z, h, y, n1, n2, r⟩ => ⟨a, v, lw, w, e, by rw [upd_ne (ne_of z hl (by intro q; cases q))]; exact z, h, by rw [upd_ne n2]; exact y, n1, n2, r⟩
theorem KnsAt.imp {H H3 H4 : Hp} {la lf : Addr} {t : T} (f : ∀ v p, KnAt H H3 la lf t v p → KnAt H H4 la lf t v p) : ∀ {vs : List V} {ps : List T}, KnsAt H H3 la lf t vs ps → KnsAt H H4 la lf t vs ps
  | _, _, .nil => .nil
  | _, _, .cons h r => .cons (f _ _ h) (KnsAt.imp f r)
theorem KnsAt.len {H H3 : Hp} {la lf : Addr} {t : T} {vs : List V} {ps : List T} (h : KnsAt H H3 la lf t vs ps) : vs.length = ps.length := Paired.length h
theorem KnsAt.snoc {H H3 : Hp} {la lf : Addr} {t : T} : ∀ {ps : List T} {p : T} {vs : List V}, KnsAt H H3 la lf t vs (ps ++ [p]) → ∃ us v, vs = us ++ [v] ∧ KnsAt H H3 la lf t us ps ∧ KnAt H H3 la lf t v p
  | [], p, _, .cons r .nil => ⟨[], _, rfl, .nil, r⟩
  | b :: ps, p, _, .cons r t => by
    obtain ⟨us, v, e, h1, h2⟩ := KnsAt.snoc (ps := ps) t
    exact ⟨_ :: us, v, by rw [e]; rfl, .cons r h1, h2⟩
theorem KnsAt.mem {H H3 : Hp} {la lf : Addr} {t : T} : ∀ {vs : List V} {ps : List T}, KnsAt H H3 la lf t vs ps → ∀ {f : V}, f ∈ vs → ∃ p, KnAt H H3 la lf t f p
  | _, _, .nil, f, hf => (List.not_mem_nil hf).elim
  | _, _, .cons h r, f, hf => by
    rcases List.mem_cons.mp hf with e | e
    · rw [e]
      exact ⟨_, h⟩
    · exact KnsAt.mem r e
theorem KnsAt.thin {H H3 : Hp} {la lf : Addr} {t : T} : ∀ {vs : List V} {ps : List T}, KnsAt H H3 la lf t vs ps → Paired (fun u p => ∃ (a : Addr) (v : V) (lw : Addr), u = .ref a ∧ H3 a = some (.tup [v, .ref lw]) ∧ At H v p) vs ps
  | _, _, .nil => .nil
  | _, _, .cons ⟨a, v, lw, w, e, z, h, _⟩ r => .cons ⟨a, v, lw, e, z, h⟩ (KnsAt.thin r)
def spKnots : Sp := fun vs H Q _ => ∃ (x : V) (t : T) (n : List Int), vs = [x] ∧ At H x t ∧ Good t n ∧ sz t ≤ 100 ∧
  ∀ (l : Addr) (us : List V) (H' : Hp), Same H H' → H' l = some (.lst us) → 0 < us.length → us.length ≤ 100 → (∀ u ∈ us, ∃ (a : Addr) (v : V) (lw : Addr) (w : List Nat) (p : T), u = .ref a ∧ H' a = some (.tup [v, .ref lw]) ∧ At H v p ∧ H' lw = some (.lst (nums w)) ∧ Way t w p ∧ ∃ n, Good p n) → (∃ fps, Paired (fun u p => ∃ (a : Addr) (v : V) (lw : Addr), u = .ref a ∧ H' a = some (.tup [v, .ref lw]) ∧ At H v p) us fps ∧ (fps.filter isI).length = n.length) → Q (.ref l) H'
section
variable {P : Program} {w : World} {K : PySem.W.Frag} {mg : Str → Option Value} {base : Heap} {kA : Addr}
theorem scKnots : FnScope ["tree", "found", "pile", "here", "way", "k"] ["tree"] (defScope sKnots) := ⟨rfl, rfl, rfl, by decide +kernel, rfl, by decide +kernel, by decide +kernel⟩
theorem ok_knots {f : Addr} {fd : FuncData} (F : Fun K "_law_knots" "_law_knots" sKnots f fd) (Z : Nm K mg kA) : FnOk P w K mg base CX0 1 f fd ["tree"] spKnots := by
  obtain ⟨gKIND, gPARTS, gMOST_BOXES, gKINDS, kk, ti, tint, tbool, tstr, ttup, tlist, tl, tany, ts, tr, kI, kB, kS, kT⟩ := Z
  refine F.ok scKnots (fun vs H Q E h => ?_) (fun cdv A outer s H vs Q E hr h => ?_)
  · obtain ⟨x, t, n, rfl, _⟩ := h
    rfl
  · obtain ⟨x, t, n, rfl, hA, gt, hz, q⟩ := h
    refine ⟨_, (pss_cons (ps_set (i := 1) scKnots.nd rfl (Or.inl rfl) (pe_lst pa_nil))
      (pss_cons (ps_set (i := 2) scKnots.nd rfl (Or.inl rfl) (pe_lst (pa_cons (pe_tup (pa_cons (pv 0) (pa_cons (pe_lst pa_nil) pa_nil))) pa_nil)))
      (pss_cons (ps_while PassesOwn.never (pt_cmpR (op_neR hr.units) (pv 2) (pe_lst pa_nil) (nomark _))
      (pss_cons (ps_asg (pe_bm0 PySem.F.plainAttrs_list PySem.F.slot_list_pop PySem.F.type_list_pop mt_pop (pv 2)) (pg_tup rfl (pgs_cons (pg_name (i := 3) scKnots.nd rfl (Or.inl rfl)) (pgs_cons (pg_name (i := 4) scKnots.nd rfl (Or.inl rfl)) pgs_nil))))
        (pss_cons (ps_expr (pe_bm PySem.F.plainAttrs_list PySem.F.slot_list_append PySem.F.type_list_append mt_append (pv 1) (pa_cons (pe_tup (pa_cons (pv 3) (pa_cons (pv 4) pa_nil))) pa_nil)))
        (pss_one (ps_if (pt_val (pe_callB call_isi (by rfl) ti PyProof.Rows.boot_isinstance (pa_cons (pv 3) (pa_cons (pe_tyn rfl ttup PyProof.Rows.boot_tuple) pa_nil))))
        (pss_one (ps_for PassesOwn.never rfl (pi_range1 rfl tr (pa_cons (pe_callB call_len_seq (by rfl) tl PySem.boot_len (pa_cons (pe_ix ix_tup (pv 3) pe_int (fun _ _ => rfl)) pa_nil)) pa_nil)) (pg_name (i := 5) scKnots.nd rfl (Or.inl rfl))
          (pss_one (ps_expr (pe_bm PySem.F.plainAttrs_list PySem.F.slot_list_append PySem.F.type_list_append mt_append (pv 2) (pa_cons (pe_tup (pa_cons (pe_ix ix_tup (pe_ix ix_tup (pv 3) pe_int (fun _ _ => rfl)) (pv 5) (fun _ _ => rfl)) (pa_cons (pe_op op_cat (pv 4) (pe_lst (pa_cons (pv 5) pa_nil))) pa_nil))) pa_nil))))))
        pss_nil)))))
      (pss_one (ps_ret (pv 1)))))), ?_⟩
    refine ⟨by show 0 ≤ sizeLine; decide, fun lf nlf => ?_⟩
    have S1 := same_new (o := .lst []) nlf
    have h1 : (upd H lf (.lst [])) lf = some (.lst []) := upd_same
    generalize upd H lf (.lst []) = H1 at S1 h1
    dsimp only
    refine ⟨_, rfl, by show 0 ≤ sizeLine; decide, fun l0 nl0 => ⟨by show 2 ≤ sizeLine; decide, fun p0 np0 => ⟨by show 1 ≤ sizeLine; decide, fun la nla => ?_⟩⟩⟩
    have S2 := S1.trans (same_new (o := .lst []) nl0)
    have h2 : (upd H1 l0 (.lst [])) l0 = some (.lst []) := upd_same
    have m1 : l0 ≠ lf := (ne_of_none h1 nl0).symm
    have h1 := same_new (o := .lst []) nl0 _ _ h1
    generalize upd H1 l0 (.lst []) = H2 at S2 h2 h1 np0 nla
    have S3 := S2.trans (same_new (o := .tup [x, .ref l0]) np0)
    have h3 : (upd H2 p0 (.tup [x, .ref l0])) p0 = some (.tup [x, .ref l0]) := upd_same
    have h1 := same_new (o := .tup [x, .ref l0]) np0 _ _ h1
    have h2 := same_new (o := .tup [x, .ref l0]) np0 _ _ h2
    generalize upd H2 p0 (.tup [x, .ref l0]) = H3 at S3 h3 h2 h1 nla
    have fla : H la = none := S3.free nla
    have m2 : l0 ≠ la := ne_of_none h2 nla
    have nn : lf ≠ la := ne_of_none h1 nla
    have S4 := S3.trans (same_new (o := .lst [.ref p0]) nla)
    have h4 : (upd H3 la (.lst [.ref p0])) la = some (.lst [.ref p0]) := upd_same
    have h1 := same_new (o := .lst [.ref p0]) nla _ _ h1
    have h2 := same_new (o := .lst [.ref p0]) nla _ _ h2
    have h3 := same_new (o := .lst [.ref p0]) nla _ _ h3
    generalize upd H3 la (.lst [.ref p0]) = H4 at S4 h4 h3 h2 h1
    dsimp only
    refine run_seq ?_
    refine ⟨fun m σ H5 => ∃ (us fs : List V) (ps : List T) (o3 o4 o5 : Option V), m = szL ps ∧ σ = [some x, some (.ref lf), some (.ref la), o3, o4, o5] ∧ Same H H5 ∧ H5 lf = some (.lst fs) ∧ H5 la = some (.lst us) ∧ KnsAt H H5 la lf t us ps ∧ (∃ fps, KnsAt H H5 la lf t fs fps ∧ (fps.filter isI).length + cntL ps = cnt t) ∧ fs.length + szL ps ≤ sz t ∧ 0 < fs.length + szL ps,
      ⟨_, [.ref p0], [], [t], none, none, none, rfl, rfl, S4, h1, h4, .cons ⟨p0, x, l0, [], rfl, h3, hA, h2, m2, m1, rfl, by decide, n, gt⟩ .nil, ⟨[], .nil, by simp only [cntL, List.filter, List.length_nil]; omega⟩, by simp only [szL]; exact Nat.le_of_eq (by simp), by simp only [szL]; have := sz_pos t; simp; omega⟩, ?_⟩
    rintro m σ H5 ⟨us, fs, ps, o3, o4, o5, rfl, rfl, S5, hlf, hla, hP, ⟨fps, hF, hc⟩, hs, hpos⟩
    refine ⟨_, rfl, by show 0 ≤ sizeLine; decide, fun pe npe => ?_⟩
    have Se := same_new (o := .lst []) npe
    have hpe : (upd H5 pe (.lst [])) pe = some (.lst []) := upd_same
    have S6 := S5.trans Se
    have hlf := Se _ _ hlf
    have hla := Se _ _ hla
    have hP := KnsAt.imp (fun _ _ z => KnAt.same Se z) hP
    have hF := KnsAt.imp (fun _ _ z => KnAt.same Se z) hF
    generalize upd H5 pe (.lst []) = H6 at Se hpe S6 hlf hla hP hF
    have lps := hP.len
    rcases Tre.nil_or_snoc' ps with e | ⟨ps', p, e⟩
    · subst e
      cases hP
      simp only [szL] at hs hpos
      simp only [cntL] at hc
      refine ⟨la, pe, 1, true, rfl, rfl, eq_nil (SqL.of hla) (SqL.of hpe), by decide, false, rfl, iteF ?_⟩
      exact ⟨_, rfl, q lf fs H6 S6 hlf (by omega) (by omega) (fun f hf => by
        obtain ⟨p, a, v, lw, w, e, z, h, y, _, _, c, _, g⟩ := hF.mem hf
        exact ⟨a, v, lw, w, p, e, z, h, y, c, g⟩) ⟨fps, KnsAt.thin hF, by rw [← gt.cnt]; omega⟩⟩
    · subst e
      obtain ⟨us', u, rfl, hP', kn⟩ := hP.snoc
      obtain ⟨q0, v, lw, wy, rfl, hq0, hv, hlw, d1, d2, hway, lwy, np, gp⟩ := id kn
      refine ⟨la, pe, 1, false, rfl, rfl, EqR.lens (n := 0) (SqL.of hla) (SqL.of hpe) (by simp), by decide, true, rfl, iteT ⟨_, fun _ _ y => y, ?_⟩⟩
      refine ⟨_, rfl, .inl ⟨rfl, _, SqL.of hla⟩, la, _, .ref q0, rfl, rfl, hla, (by simp), ?_⟩
      have S7 : Same H (upd H6 la (.lst (us' ++ [V.ref q0]).dropLast)) := same_upd S6 fla
      have hlf7 : (upd H6 la (.lst (us' ++ [V.ref q0]).dropLast)) lf = some (.lst fs) := by rw [upd_ne nn]; exact hlf
      have hla7 : (upd H6 la (.lst (us' ++ [V.ref q0]).dropLast)) la = some (.lst us') := by rw [upd_same, List.dropLast_concat]
      have hP7 := KnsAt.imp (fun _ _ z => KnAt.updA (o' := .lst (us' ++ [V.ref q0]).dropLast) hla z) hP'
      have hF7 := KnsAt.imp (fun _ _ z => KnAt.updA (o' := .lst (us' ++ [V.ref q0]).dropLast) hla z) hF
      have hq7 : (upd H6 la (.lst (us' ++ [V.ref q0]).dropLast)) q0 = some (.tup [v, .ref lw]) := by rw [upd_ne (ne_of hq0 hla (by intro z; cases z))]; exact hq0
      have hlw7 : (upd H6 la (.lst (us' ++ [V.ref q0]).dropLast)) lw = some (.lst (nums wy)) := by rw [upd_ne d1]; exact hlw
      generalize upd H6 la (.lst (us' ++ [V.ref q0]).dropLast) = H7 at S7 hlf7 hla7 hP7 hF7 hq7 hlw7
      refine ⟨q0, _, rfl, SqT.of hq7, rfl, _, _, rfl, _, _, rfl, rfl, ?_⟩
      have lsz : szL (ps' ++ [p]) = szL ps' + sz p := by rw [szL_app]; simp only [szL]; omega
      have psz := sz_pos p
      refine ⟨_, rfl, .inl ⟨rfl, _, SqL.of hlf7⟩, _, rfl, _, rfl, by show 2 ≤ sizeLine; decide, fun p8 np8 => ?_⟩
      have S8' := same_new (o := .tup [v, .ref lw]) np8
      have S8 := S7.trans S8'
      have h8 : (upd H7 p8 (.tup [v, .ref lw])) p8 = some (.tup [v, .ref lw]) := upd_same
      have hlf8 := S8' _ _ hlf7
      have hla8 := S8' _ _ hla7
      have hlw8 := S8' _ _ hlw7
      have hP8 := KnsAt.imp (fun _ _ z => KnAt.same S8' z) hP7
      have hF8 := KnsAt.imp (fun _ _ z => KnAt.same S8' z) hF7
      generalize upd H7 p8 (.tup [v, .ref lw]) = H8 at S8 h8 hlf8 hla8 hlw8 hP8 hF8
      refine ⟨lf, _, _, rfl, rfl, hlf8, Nat.lt_of_le_of_lt (show _ ≤ 100 by omega) (by decide), ?_⟩
      have kn8 : KnAt H H8 la lf t (.ref p8) p := ⟨p8, v, lw, wy, rfl, h8, hv, hlw8, d1, d2, hway, lwy, np, gp⟩
      have S9 : Same H (upd H8 lf (.lst (fs ++ [.ref p8]))) := same_upd S8 nlf
      have hlf9 : (upd H8 lf (.lst (fs ++ [.ref p8]))) lf = some (.lst (fs ++ [.ref p8])) := upd_same
      have hla9 : (upd H8 lf (.lst (fs ++ [.ref p8]))) la = some (.lst us') := by rw [upd_ne nn.symm]; exact hla8
      have hlw9 : (upd H8 lf (.lst (fs ++ [.ref p8]))) lw = some (.lst (nums wy)) := by rw [upd_ne d2]; exact hlw8
      have hP9 := KnsAt.imp (fun _ _ z => KnAt.updF (o' := .lst (fs ++ [.ref p8])) hlf8 z) hP8
      have hF9 : KnsAt H (upd H8 lf (.lst (fs ++ [.ref p8]))) la lf t (fs ++ [.ref p8]) (fps ++ [p]) := Paired.snoc (KnsAt.imp (fun _ _ z => KnAt.updF hlf8 z) hF8) (kn8.updF hlf8)
      generalize upd H8 lf (.lst (fs ++ [.ref p8])) = H9 at S9 hlf9 hla9 hlw9 hP9 hF9
      have lfs : (fs ++ [V.ref p8]).length = fs.length + 1 := by simp
      dsimp only
      refine ⟨_, rfl, _, _, _, _, rfl, rfl, (hv.same S9).ty, kT p, _, rfl, ?_⟩
      cases gp with
      | leaf i =>
        refine iteF ⟨_, by rw [lsz]; omega, us', _, ps', _, _, _, rfl, rfl, S9, hlf9, hla9, hP9, ⟨_, hF9, ?_⟩, by rw [lfs]; omega, by omega⟩
        rw [cntL_app] at hc
        simp only [cntL, cnt] at hc
        rw [List.filter_append, List.length_append]
        show _ + 1 + _ = _
        omega
      | @node kd qs nss hk h2 hn hG =>
      cases hv with
      | @tup a0 vs0 ss e hL =>
      obtain ⟨b0, ws, rfl, e2, hQ⟩ := hL.knot
      have lq := hQ.len
      have nsz := sz_node kd qs
      have ls1 := szL_len ps'
      have ls2 := szL_len qs
      have lus := hP9.len
      refine iteT ⟨_, rfl, _, _, _, _, rfl, rfl, SqT.of (S9 _ _ e), rfl, _, _, rfl, .inr (SqT.of (S9 _ _ e2)), _, rfl, by omega, by omega, ?_⟩
      have wl := hway.len
      have nl : nums wy = wy.map fun k : Nat => V.int k := rfl
      refine for_range (lo := 0) (n := ws.length) (fun i σ H10 => ∃ (us10 : List V) (o5 : Option V), σ = [some x, some (.ref lf), some (.ref la), some (.ref a0), some (.ref lw), o5] ∧ Same H H10 ∧ H10 lf = some (.lst (fs ++ [.ref p8])) ∧ H10 la = some (.lst us10) ∧ H10 lw = some (.lst (nums wy)) ∧ KnsAt H H10 la lf t us10 (ps' ++ qs.take i) ∧ KnsAt H H10 la lf t (fs ++ [.ref p8]) (fps ++ [.tup [.str kd, .tup qs]]))
        ⟨us', _, rfl, S9, hlf9, hla9, hlw9, by simpa using hP9, hF9⟩ ?_ ?_
      · rintro i σ H10 hi ⟨us10, o5, rfl, S10, hlf10, hla10, hlw10, hP10, hF10⟩
        have hiq : i < qs.length := by omega
        have eq1 : qs[i]? = some qs[i] := List.getElem?_eq_getElem hiq
        obtain ⟨y, ey, hAy⟩ := hQ.get' eq1
        have l10 := hP10.len
        rw [List.length_append, List.length_take] at l10
        have ez : atI ws ((0 : Int) + i) = some y := by rw [Int.zero_add]; exact atI_nat ey
        refine run_gname ?_
        refine ⟨_, rfl, .inl ⟨rfl, _, SqL.of hla10⟩, _, rfl, _, _, _, _, rfl, rfl, SqT.of (S10 _ _ e), rfl, _, rfl, _, _, _, _, rfl, rfl, SqT.of (S10 _ _ e2), ez, _, rfl, _, rfl, by show 1 ≤ sizeLine; decide, fun pl npl => ?_⟩
        have Sa := same_new (o := .lst [.int (0 + (i : Int))]) npl
        have ka : (upd H10 pl (.lst [.int (0 + (i : Int))])) pl = some (.lst [.int (0 + (i : Int))]) := upd_same
        have hlw11 := Sa _ _ hlw10
        generalize upd H10 pl (.lst [.int (0 + (i : Int))]) = H11 at Sa ka hlw11
        refine ⟨lw, pl, _, _, rfl, rfl, hlw11, ka, by rw [nl, List.length_map]; exact Nat.le_trans (show _ ≤ 200 by simp; omega) (by decide), fun pc npc => ⟨by show 2 ≤ sizeLine; decide, fun tq ntq => ?_⟩⟩
        have Sb := same_new (o := .lst (nums wy ++ [.int (0 + (i : Int))])) npc
        have kb : (upd H11 pc (.lst (nums wy ++ [.int (0 + (i : Int))]))) pc = some (.lst (nums (wy ++ [i]))) := by
          rw [upd_same, nl]
          unfold nums
          rw [List.map_append, Int.zero_add]
          rfl
        have c1 : pc ≠ la := (ne_of_none (Sa _ _ hla10) npc).symm
        have c2 : pc ≠ lf := (ne_of_none (Sa _ _ hlf10) npc).symm
        generalize upd H11 pc (.lst (nums wy ++ [.int (0 + (i : Int))])) = H12 at Sb kb ntq
        have Sc := same_new (o := .tup [y, .ref pc]) ntq
        have kc : (upd H12 tq (.tup [y, .ref pc])) tq = some (.tup [y, .ref pc]) := upd_same
        have kb := Sc _ _ kb
        generalize upd H12 tq (.tup [y, .ref pc]) = H13 at Sc kc kb
        have S13 := Sa.trans (Sb.trans Sc)
        have hla13 := S13 _ _ hla10
        refine ⟨la, _, _, rfl, rfl, hla13, Nat.lt_of_le_of_lt (show us10.length ≤ 300 by omega) (by decide), ?_⟩
        have gq : ∃ n, Good qs[i] n := hG.mem _ (List.getElem_mem hiq)
        have wn : (wy ++ [i]).length ≤ 100 := by
          have := (hway.snoc eq1).len
          omega
        have kn13 : KnAt H H13 la lf t (.ref tq) qs[i] := ⟨tq, y, pc, wy ++ [i], rfl, kc, hAy, kb, c1, c2, hway.snoc eq1, wn, gq⟩
        refine ⟨us10 ++ [.ref tq], _, rfl, same_upd (S10.trans S13) fla, by rw [upd_ne nn]; exact S13 _ _ hlf10, upd_same, by rw [upd_ne d1]; exact S13 _ _ hlw10, ?_, KnsAt.imp (fun _ _ z => (KnAt.same S13 z).updA hla13) hF10⟩
        rw [← List.take_append_getElem hiq, ← List.append_assoc]
        exact Paired.snoc (KnsAt.imp (fun _ _ z => KnAt.updA hla13 (z.same S13)) hP10) (kn13.updA hla13)
      · rintro σ H10 ⟨us10, o5, rfl, S10, hlf10, hla10, hlw10, hP10, hF10⟩
        rw [lq, List.take_length] at hP10
        refine ⟨_, by rw [szL_app, lsz]; omega, us10, _, _, _, _, _, rfl, rfl, S10, hlf10, hla10, hP10, ⟨_, hF10, ?_⟩, by rw [lfs, szL_app]; omega, by omega⟩
        rw [cntL_app] at hc
        rw [cntL_app, List.filter_append, List.length_append]
        have e1 : cntL [.tup [.str kd, .tup qs]] = cntL qs := by rw [← cnt_node kd qs]; simp only [cntL]; omega
        rw [e1] at hc
        show _ + 0 + _ = _
        omega
end
end KU
set_option Elab.async false
set_option linter.all false
set_option maxRecDepth 100000
set_option maxHeartbeats 4000000
namespace KU
open PySem L2 Tre PySem.W
inductive Chain (H H3 : Hp) (t : T) : List V → T → Prop where
  | nil : Chain H H3 t [] t
  | snoc {us : List V} {a : Addr} {v : V} {kd : Str} {ps : List T} {k : Nat} {c : T} (r : Chain H H3 t us (.tup [.str kd, .tup ps])) (e : H3 a = some (.tup [v, .int k])) (h : At H v (.tup [.str kd, .tup ps])) (g : ps[k]? = some c) : Chain H H3 t (us ++ [.ref a]) c
theorem Chain.imp {H H3 H4 : Hp} {t : T} (f : ∀ a xs, H3 a = some (.tup xs) → H4 a = some (.tup xs)) : ∀ {us : List V} {c : T}, Chain H H3 t us c → Chain H H4 t us c
  | _, _, .nil => .nil
  | _, _, .snoc r e h g => .snoc (Chain.imp f r) (f _ _ e) h g
theorem Chain.inv {H H3 : Hp} {t c : T} {l A : List V} {u : V} (h : Chain H H3 t l c) (e : l = A ++ [u]) : ∃ a v kd ps k, u = .ref a ∧ Chain H H3 t A (.tup [.str kd, .tup ps]) ∧ H3 a = some (.tup [v, .int (k : Nat)]) ∧ At H v (.tup [.str kd, .tup ps]) ∧ ps[k]? = some c := by
  cases h with
  | nil =>
    have := congrArg List.length e
    simp at this
  | @snoc us a v kd ps k _ r e1 h g =>
    have e2 := congrArg List.reverse e
    rw [List.reverse_append, List.reverse_append, List.reverse_singleton, List.reverse_singleton] at e2
    injection e2 with e3 e4
    have e5 : us = A := List.reverse_inj.mp e4
    subst e5
    exact ⟨a, v, kd, ps, k, e3.symm, r, e1, h, g⟩
theorem Chain.top {H H3 : Hp} {t c : T} {l : List V} (h : Chain H H3 t l c) (e : l = []) : c = t := by
  cases h with
  | nil => rfl
  | snoc _ _ _ _ =>
    have := congrArg List.length e
    simp at this
theorem AtL.take {H : Hp} : ∀ {vs : List V} {ts : List T} (k : Nat), AtL H vs ts → AtL H (vs.take k) (ts.take k)
  | _, _, 0, _ => .nil
  | _, _, k + 1, .nil => .nil
  | _, _, k + 1, .cons h r => .cons h (AtL.take k r)
theorem AtL.drop {H : Hp} : ∀ {vs : List V} {ts : List T} (k : Nat), AtL H vs ts → AtL H (vs.drop k) (ts.drop k)
  | _, _, 0, h => h
  | _, _, k + 1, .nil => .nil
  | _, _, k + 1, .cons _ r => AtL.drop k r
theorem szL_cut : ∀ {ps : List T} {k : Nat} {c : T}, ps[k]? = some c → szL ps = szL (ps.take k) + sz c + szL (ps.drop (k + 1))
  | [], _, _, e => by simp at e
  | p :: ps, 0, c, e => by
    simp at e
    subst e
    simp only [List.take, List.drop, szL]
    omega
  | p :: ps, k + 1, c, e => by
    have := szL_cut (ps := ps) (k := k) (c := c) (by simpa using e)
    simp only [List.take, List.drop, szL]
    omega
theorem Chain.sz {H H3 : Hp} {t : T} : ∀ {us : List V} {c : T}, Chain H H3 t us c → sz c ≤ sz t
  | _, _, .nil => Nat.le_refl _
  | _, _, .snoc (kd := kd) (ps := ps) r _ _ g => by
    have := r.sz
    have := szL_get g
    have := sz_node kd ps
    omega
def spPut : Sp := fun vs H Q _ => ∃ (x : V) (t p : T) (lw : Addr) (wy : List Nat) (u : V) (nw : T), vs = [x, .ref lw, u] ∧ At H x t ∧ H lw = some (.lst (nums wy)) ∧ Way t wy p ∧ At H u nw ∧ sz t ≤ 100 ∧ sz nw ≤ 200 ∧
  ∀ (v : V) (r : T) (H' : Hp), Same H H' → At H' v r → sz r ≤ sz t + sz nw → Q v H'
section
variable {P : Program} {w : World} {K : PySem.W.Frag} {mg : Str → Option Value} {base : Heap} {kA : Addr}
theorem scPut : FnScope ["tree", "way", "new", "above", "here", "k", "made", "knot"] ["tree", "way", "new"] (defScope sPut) := ⟨rfl, rfl, rfl, by decide +kernel, rfl, by decide +kernel, by decide +kernel⟩
theorem ok_put {f : Addr} {fd : FuncData} (F : Fun K "_law_put" "_law_put" sPut f fd) (trev : mg "reversed" = none) : FnOk P w K mg base CX0 1 f fd ["tree", "way", "new"] spPut := by
  refine F.ok scPut (fun vs H Q E h => ?_) (fun cdv A outer s H vs Q E hr h => ?_)
  · obtain ⟨x, t, p, lw, wy, u, nw, rfl, _⟩ := h
    rfl
  · obtain ⟨x, t, p, lw, wy, u, nw, rfl, hA, hlw, hway, hu, hz, hnz, q⟩ := h
    refine ⟨_, (pss_cons (ps_set (i := 3) scPut.nd rfl (Or.inl rfl) (pe_lst pa_nil))
      (pss_cons (ps_set (i := 4) scPut.nd rfl (Or.inl rfl) (pv 0))
      (pss_cons (ps_for PassesOwn.never rfl (pi_list (pv 1)) (pg_name (i := 5) scPut.nd rfl (Or.inl rfl))
      (pss_cons (ps_expr (pe_bm PySem.F.plainAttrs_list PySem.F.slot_list_append PySem.F.type_list_append mt_append (pv 3) (pa_cons (pe_tup (pa_cons (pv 4) (pa_cons (pv 5) pa_nil))) pa_nil)))
        (pss_one (ps_set (i := 4) scPut.nd rfl (Or.inl rfl) (pe_ix ix_tup (pe_ix ix_tup (pv 4) pe_int (fun _ _ => rfl)) (pv 5) (fun _ _ => rfl))))))
      (pss_cons (ps_set (i := 6) scPut.nd rfl (Or.inl rfl) (pv 2))
      (pss_cons (ps_for PassesOwn.never rfl (pi_rev rfl trev (pa_cons (pv 3) pa_nil)) (pg_tup rfl (pgs_cons (pg_name (i := 7) scPut.nd rfl (Or.inl rfl)) (pgs_cons (pg_name (i := 5) scPut.nd rfl (Or.inl rfl)) pgs_nil)))
      (pss_one (ps_set (i := 6) scPut.nd rfl (Or.inl rfl) (pe_tup (pa_cons (pe_ix ix_tup (pv 7) pe_int (fun _ _ => rfl)) (pa_cons (pe_op op_catN (pe_op op_catN (pe_slice sl_tup (pe_ix ix_tup (pv 7) pe_int (fun _ _ => rfl)) po_none (po_some (pv 5))) (pe_tup (pa_cons (pv 6) pa_nil))) (pe_slice sl_tup (pe_ix ix_tup (pv 7) pe_int (fun _ _ => rfl)) (po_some (pe_op op_add (pv 5) pe_int)) po_none)) pa_nil))))))
      (pss_one (ps_ret (pv 6)))))))), ?_⟩
    refine ⟨by show 0 ≤ sizeLine; decide, fun la nla => ?_⟩
    have S1 := same_new (o := .lst []) nla
    have h1 : (upd H la (.lst [])) la = some (.lst []) := upd_same
    generalize upd H la (.lst []) = H1 at S1 h1
    have wl := hway.len
    have ln : (nums wy).length = wy.length := by unfold nums; rw [List.length_map]
    dsimp only
    refine ⟨_, rfl, ?_⟩
    refine ⟨_, rfl, lw, rfl, ⟨_, SqL.of (S1 _ _ hlw)⟩, ?_⟩
    refine for_list (K := K) (a := lw) (xs := nums wy) (fun i σ H2 => ∃ (us : List V) (c : T) (v : V) (o5 : Option V), σ = [some x, some (.ref lw), some u, some (.ref la), some v, o5, none, none] ∧ Same H H2 ∧ H2 la = some (.lst us) ∧ us.length = i ∧ Chain H H2 t us c ∧ At H v c ∧ Way c (wy.drop i) p)
      ⟨[], t, x, none, rfl, S1, h1, rfl, .nil, hA, hway⟩ (fun i σ H2 _ ⟨_, _, _, _, _, S2, _⟩ => SqL.of (S2 _ _ hlw)) ?_ ?_
    · rintro i y σ H2 hi ⟨us, c, v, o5, rfl, S2, hla, lus, hC, hv, hW⟩
      obtain ⟨k, ek, rfl⟩ : ∃ k, wy[i]? = some k ∧ y = .int k := by
        unfold nums at hi
        rw [List.getElem?_map] at hi
        obtain ⟨k, ek, e⟩ := Option.map_eq_some_iff.mp hi
        exact ⟨k, ek, e.symm⟩
      obtain ⟨hil, ev⟩ := List.getElem?_eq_some_iff.mp ek
      rw [List.drop_eq_getElem_cons hil, ev] at hW
      obtain ⟨kd, ps, c2, rfl, e2, hW2⟩ := hW
      refine run_gname ?_
      refine ⟨_, rfl, .inl ⟨rfl, _, SqL.of hla⟩, _, rfl, _, rfl, by show 2 ≤ sizeLine; decide, fun pq npq => ?_⟩
      have Sa := same_new (o := .tup [v, .int k]) npq
      have ka : (upd H2 pq (.tup [v, .int k])) pq = some (.tup [v, .int k]) := upd_same
      have hla3 := Sa _ _ hla
      generalize upd H2 pq (.tup [v, .int k]) = H3 at Sa ka hla3
      refine ⟨la, _, _, rfl, rfl, hla3, Nat.lt_of_le_of_lt (show us.length ≤ 100 by omega) (by decide), ?_⟩
      have S4 : Same H (upd H3 la (.lst (us ++ [.ref pq]))) := same_upd (S2.trans Sa) nla
      have hC4 : Chain H (upd H3 la (.lst (us ++ [.ref pq]))) t (us ++ [.ref pq]) c2 :=
        .snoc (hC.imp fun a xs z => by rw [upd_ne (ne_of (Sa _ _ z) hla3 (by intro q; cases q))]; exact Sa _ _ z) (by rw [upd_ne (ne_of ka hla3 (by intro q; cases q))]; exact ka) hv e2
      have hla4 : (upd H3 la (.lst (us ++ [.ref pq]))) la = some (.lst (us ++ [.ref pq])) := upd_same
      generalize upd H3 la (.lst (us ++ [.ref pq])) = H4 at S4 hC4 hla4
      dsimp only
      cases hv with
      | @tup a0 vs0 ss e hL =>
      obtain ⟨b0, ws, rfl, eb, hQ⟩ := hL.knot
      obtain ⟨y2, ey, hAy⟩ := hQ.get' e2
      refine ⟨_, rfl, _, _, _, _, rfl, rfl, SqT.of (S4 _ _ e), rfl, _, rfl, _, _, _, _, rfl, rfl, SqT.of (S4 _ _ eb), atI_nat ey, ?_⟩
      exact ⟨_, c2, y2, _, rfl, S4, hla4, by rw [List.length_append, lus]; rfl, hC4, hAy, hW2⟩
    · rintro σ H2 ⟨us, c, v, o5, rfl, S2, hla, lus, hC, hv, hW⟩
      rw [ln] at lus
      rw [ln, List.drop_length] at hW
      dsimp only
      refine ⟨_, rfl, ?_⟩
      refine ⟨_, rfl, la, us, rfl, SqL.of hla, ?_⟩
      have el : ∀ i, us.length - (i + 1) = us.length - 1 - i := fun i => by omega
      refine for_rev (K := K) (a := la) (xs := us) (fun i σ H3 => ∃ (c r : T) (m : V) (o5 o7 : Option V), σ = [some x, some (.ref lw), some u, some (.ref la), some v, o5, some m, o7] ∧ Same H H3 ∧ H3 la = some (.lst us) ∧ Chain H H3 t (us.take (us.length - i)) c ∧ At H3 m r ∧ sz r ≤ sz c + sz nw)
        ⟨c, nw, u, o5, none, rfl, S2, hla, by rw [Nat.sub_zero, List.take_length]; exact hC, hu.same S2, by omega⟩ (fun i σ H3 _ ⟨_, _, _, _, _, _, _, z, _⟩ => SqL.of z) ?_ ?_
      · rintro i y σ H3 hi hy ⟨c, r, m, o5, o7, rfl, S3, hla3, hC3, hm, hr3⟩
        obtain ⟨hil, ev⟩ := List.getElem?_eq_some_iff.mp hy
        have et : us.take (us.length - i) = us.take (us.length - (i + 1)) ++ [y] := by
          rw [el, show us.length - i = (us.length - 1 - i) + 1 by omega, ← List.take_append_getElem hil, ev]
        obtain ⟨a, kv, kd, ps, k, rfl, hC4, ea, hk, ec⟩ := hC3.inv et
        have hk3 := hk
        cases hk with
        | @tup a0 vs0 ss e hL =>
        obtain ⟨b0, ws, rfl, eb, hQ⟩ := hL.knot
        have lq := hQ.len
        have kl := (List.getElem?_eq_some_iff.mp ec).1
        refine ⟨a, _, rfl, SqT.of ea, rfl, _, _, rfl, _, _, rfl, rfl, ?_⟩
        have sc := szL_cut ec
        have n1 := sz_node kd ps
        have cz := hC3
        have c1 : cutV ws none (some (k : Int)) = ws.take k := cutV_take ws k (by omega)
        have c2 : cutV ws (some ((k : Int) + 1)) none = ws.drop (k + 1) := cutV_drop ws (k + 1) (by omega)
        have lsm : ws.length ≤ 1000000 := by
          have := hC4.sz
          have := szL_len ps
          omega
        refine ⟨_, rfl, _, _, _, _, rfl, rfl, SqT.of (S3 _ _ e), rfl, _, rfl, _, _, _, _, rfl, rfl, SqT.of (S3 _ _ e), rfl, _, rfl, _, rfl, b0, ws, rfl, SqT.of (S3 _ _ eb), ?_, fun p1 np1 => ?_⟩
        · rw [HT.sIx_nat, HT.sIx_none]
          omega
        rw [c1]
        have Sa := same_new (o := .tup (ws.take k)) np1
        have ka : (upd H3 p1 (.tup (ws.take k))) p1 = some (.tup (ws.take k)) := upd_same
        generalize upd H3 p1 (.tup (ws.take k)) = H4 at Sa ka
        refine ⟨_, rfl, by show 1 ≤ sizeLine; decide, fun p2 np2 => ?_⟩
        have Sb := same_new (o := .tup [m]) np2
        have kb : (upd H4 p2 (.tup [m])) p2 = some (.tup [m]) := upd_same
        have ka := Sb _ _ ka
        generalize upd H4 p2 (.tup [m]) = H5 at Sb kb ka
        refine cat_to ka kb (Nat.le_trans (show _ ≤ 1000001 by rw [List.length_take]; simp; omega) (by decide)) fun r1 H6 Sc k6 => ?_
        refine ⟨_, rfl, _, _, _, _, rfl, rfl, SqT.of (Sc _ _ (Sb _ _ (Sa _ _ (S3 _ _ e)))), rfl, _, rfl, _, _, rfl, rfl, _, rfl, b0, ws, rfl, SqT.of (Sc _ _ (Sb _ _ (Sa _ _ (S3 _ _ eb)))), ?_, fun p3 np3 => ?_⟩
        · have z := HT.sIx_nat ws.length 0 (k + 1)
          have z : HT.sIx ws.length 0 (some ((k : Int) + 1)) = min (k + 1) ws.length := z
          rw [z]
          omega
        rw [c2]
        have Sd := same_new (o := .tup (ws.drop (k + 1))) np3
        have kd7 : (upd H6 p3 (.tup (ws.drop (k + 1)))) p3 = some (.tup (ws.drop (k + 1))) := upd_same
        have k6 := Sd _ _ k6
        generalize upd H6 p3 (.tup (ws.drop (k + 1))) = H7 at Sd kd7 k6
        refine cat_to k6 kd7 (Nat.le_trans (show _ ≤ 2000001 by rw [List.length_append, List.length_take, List.length_drop]; simp; omega) (by decide)) fun r2 H8 Se k8 => ⟨by show 2 ≤ sizeLine; decide, fun p9 np9 => ?_⟩
        have Sf := same_new (o := .tup [.str kd, .ref r2]) np9
        have SS : Same H3 (upd H8 p9 (.tup [.str kd, .ref r2])) := Sa.trans (Sb.trans (Same.trans Sc (Sd.trans (Same.trans Se Sf))))
        have k9 : (upd H8 p9 (.tup [.str kd, .ref r2])) p9 = some (.tup [.str kd, .ref r2]) := upd_same
        have k8 := Sf _ _ k8
        generalize upd H8 p9 (.tup [.str kd, .ref r2]) = H9 at SS k9 k8
        refine ⟨.tup [.str kd, .tup ps], .tup [.str kd, .tup (ps.take k ++ [r] ++ ps.drop (k + 1))], .ref p9, _, _, rfl, S3.trans SS, SS _ _ hla3, hC4.imp fun a xs z => SS _ _ z, ?_, ?_⟩
        · exact .tup k9 (.cons (.str kd) (.cons (.tup k8 ((((hQ.take k).same (S3.trans SS)).app (.cons (hm.same SS) .nil)).app ((hQ.drop (k + 1)).same (S3.trans SS)))) .nil))
        · rw [sz_node, sz_node, szL_app, szL_app]
          simp only [szL]
          omega
      · rintro σ H3 ⟨c, r, m, o5, o7, rfl, S3, hla3, hC3, hm, hr3⟩
        have e := hC3.top (by rw [Nat.sub_self]; rfl)
        subst e
        exact ⟨_, rfl, q m r H3 S3 hm hr3⟩
end
end KU
set_option Elab.async false
set_option linter.all false
set_option maxRecDepth 100000
set_option maxHeartbeats 4000000
namespace KU
open PySem L2 Tre PySem.W
def Th (b : Nat) (te : TE) (σ : St) (H0 : Hp) : Prop := ∀ (H : Hp) (Q : VK), Same H0 H → (∀ v t H', Same H H' → At H' v t → sz t ≤ b → Q v H') → te σ H Q
def ThL (b n : Nat) (ta : TA) (σ : St) (H0 : Hp) : Prop := ∀ (H : Hp) (Q : List V → Hp → Prop), Same H0 H → (∀ vs ts H', Same H H' → AtL H' vs ts → szL ts ≤ b → ts.length = n → Q vs H') → ta σ H Q
def ThA (B n : Nat) (ta : TA) (σ : St) (H0 : Hp) : Prop := ∀ (H : Hp) (Q : List V → Hp → Prop), Same H0 H → (∀ vs H', Same H H' → vs.length = n → (∀ v ∈ vs, ∃ t, At H' v t ∧ sz t ≤ B) → Q vs H') → ta σ H Q
section
variable {σ : St} {H0 : Hp} {te : TE} {ta : TA} {b c n B : Nat}
theorem th_c {v : V} {t : T} (h : ∀ H, At H v t) (hb : sz t ≤ b) : Th b (tC v) σ H0 := fun H Q S q => q v t H (Same.refl _) (h H) hb
theorem th_int {i : Int} : Th 1 (tC (.int i)) σ H0 := th_c (fun _ => .int i) (by simp only [sz]; exact Nat.le_refl _)
theorem th_str {x : Str} : Th 1 (tC (.str x)) σ H0 := th_c (fun _ => .str x) (by simp only [sz]; exact Nat.le_refl _)
theorem th_non : Th 1 (tC .non) σ H0 := th_c (fun _ => .non) (by simp only [sz]; exact Nat.le_refl _)
theorem th_bl {x : Bool} : Th 1 (tC (.bl x)) σ H0 := th_c (fun _ => .bl x) (by simp only [sz]; exact Nat.le_refl _)
theorem th_var {i : Nat} {v : V} {t : T} (e : σ[i]? = some (some v)) (h : At H0 v t) (hb : sz t ≤ b) : Th b (tVar i) σ H0 := fun H Q S q => ⟨v, e, q v t H (Same.refl _) (h.same S) hb⟩
theorem th_neg {i : Int} : Th 1 (tUn (rU fun i => V.int (-i)) (tC (V.int i))) σ H0 := fun H Q S q => ⟨i, rfl, q _ (.int (-i)) H (Same.refl _) (.int _) (by simp only [sz]; exact Nat.le_refl _)⟩
theorem th_op {i : Nat} {m j : Int} {g : Int → Int → Int} (e : σ[i]? = some (some (.int m))) : Th 1 (tOp (rI0 fun i j => V.int (g i j)) (tVar i) (tC (.int j))) σ H0 := fun H Q S q => ⟨_, e, m, j, rfl, rfl, q _ (.int (g m j)) H (Same.refl _) (.int _) (by simp only [sz]; exact Nat.le_refl _)⟩
theorem th_pow : Th 1 (tOp (rI CPow fun i j => V.int (i ^ j.toNat)) (tC (.int 10)) (tC (.int 30))) σ H0 := fun H Q S q => ⟨10, 30, rfl, rfl, ⟨by decide, by decide, by decide⟩, q _ (.int _) H (Same.refl _) (.int _) (by simp only [sz]; exact Nat.le_refl _)⟩
theorem th_dic : Th 1 tDNewK σ H0 := fun H Q S q p np => q (.ref p) .dic _ (same_new np) (.dic upd_same) (by simp only [sz]; exact Nat.le_refl _)
theorem ths_nil : ThL 0 0 tNil σ H0 := fun H Q S q => q [] [] H (Same.refl _) .nil (Nat.le_refl _) rfl
theorem ths_cons (h : Th b te σ H0) (r : ThL c n ta σ H0) : ThL (b + c) (n + 1) (tCons te ta) σ H0 := fun H Q S q =>
  h H _ S fun v t H1 S1 a1 z1 => r H1 _ (S.trans S1) fun vs ts H2 S2 a2 z2 l2 => q (v :: vs) (t :: ts) H2 (S1.trans S2) (.cons (a1.same S2) a2) (by simp only [szL]; omega) (by rw [List.length_cons, l2])
theorem th_tup (h : ThL b n ta σ H0) (hn : n ≤ 100) : Th (b + 1) (tTup ta) σ H0 := fun H Q S q =>
  h H _ S fun vs ts H1 S1 a1 z1 l1 => ⟨Nat.le_trans (show vs.length ≤ 100 by rw [a1.len]; omega) (by decide), fun p np => q (.ref p) (.tup ts) _ (S1.trans (same_new np)) (.tup upd_same (a1.same (same_new np))) (by simp only [sz]; omega)⟩
theorem th_lst (h : ThL b n ta σ H0) (hn : n ≤ 100) : Th 1 (tLst ta) σ H0 := fun H Q S q =>
  h H _ S fun vs ts H1 S1 a1 z1 l1 => ⟨Nat.le_trans (show vs.length ≤ 100 by rw [a1.len]; omega) (by decide), fun p np => q (.ref p) .lst _ (S1.trans (same_new np)) (.lst upd_same) (by simp only [sz]; exact Nat.le_refl _)⟩
theorem th_list {K : PySem.W.Frag} {i : Nat} {a : Addr} {us : List V} (e : σ[i]? = some (some (.ref a))) (h : H0 a = some (.tup us)) : Th 1 (tCB (fun xs H Q => ∃ p ys, xs = [.ref p] ∧ (SqL K H p ys ∨ SqT K H p ys) ∧ ∀ l, H l = none → Q (.ref l) (upd H l (.lst ys))) (tCons (tVar i) tNil)) σ H0 := fun H Q S q =>
  ⟨_, e, a, us, rfl, .inr (SqT.of (S _ _ h)), fun l nl => q (.ref l) .lst _ (same_new nl) (.lst upd_same) (by simp only [sz]; exact Nat.le_refl _)⟩
theorem szL_take : ∀ (ts : List T) (k : Nat), szL (ts.take k) ≤ szL ts
  | _, 0 => Nat.zero_le _
  | [], k + 1 => Nat.le_refl _
  | t :: ts, k + 1 => by
    have := szL_take ts k
    simp only [List.take, szL]
    omega
theorem th_cut {K : PySem.W.Frag} {i : Nat} {a : Addr} {us : List V} {ts : List T} (e : σ[i]? = some (some (.ref a))) (h : H0 a = some (.tup us)) (hL : AtL H0 us ts) (h2 : 2 ≤ us.length) (hb : 1 + szL ts ≤ b) : Th b (tSl (rSlT K) (tVar i) tNoPart (tPart (tC (.int 1)))) σ H0 := fun H Q S q => by
  refine ⟨_, e, 1, rfl, a, us, rfl, SqT.of (S _ _ h), ?_, fun p np => ?_⟩
  · have z : HT.sIx us.length us.length (some (1 : Int)) = min 1 us.length := HT.sIx_nat us.length us.length 1
    rw [z]
    omega
  · have z : cutV us none (some (1 : Int)) = us.take 1 := cutV_take us 1 (by omega)
    rw [z]
    refine q (.ref p) (.tup (ts.take 1)) _ (same_new np) (.tup upd_same (((hL.take 1).same S).same (same_new np))) ?_
    have := szL_take ts 1
    simp only [sz]
    omega
theorem tha_nil : ThA B 0 tNil σ H0 := fun H Q S q => q [] H (Same.refl _) rfl fun v hv => (List.not_mem_nil hv).elim
theorem tha_cons (h : Th b te σ H0) (r : ThA B n ta σ H0) (hb : b ≤ B) : ThA B (n + 1) (tCons te ta) σ H0 := fun H Q S q =>
  h H _ S fun v t H1 S1 a1 z1 => r H1 _ (S.trans S1) fun vs H2 S2 l2 all => q (v :: vs) H2 (S1.trans S2) (by rw [List.length_cons, l2]) fun u hu => by
    rcases List.mem_cons.mp hu with e | e
    · rw [e]
      exact ⟨t, a1.same S2, Nat.le_trans z1 hb⟩
    · exact all u e
theorem go_first {D : Ends} {i : Nat} {u : TS} {H : Hp} (t : ThA B n ta σ H0) (S : Same H0 H) (hn : n ≤ 100)
    (k : ∀ l us H', Same H0 H' → H' l = some (.lst us) → us.length = n → (∀ v ∈ us, ∃ t, At H' v t ∧ sz t ≤ B) → u D (σ.set i (some (.ref l))) H') : tSeq (tAsg (tLst ta) (gName i)) u D σ H :=
  t H _ S fun vs H1 S1 l1 all => ⟨Nat.le_trans (show vs.length ≤ 100 by omega) (by decide), fun p np => k p vs _ (S.trans (S1.trans (same_new np))) upd_same l1 fun v hv => (all v hv).imp fun t z => ⟨z.1.same (same_new np), z.2⟩⟩
theorem go_more {D : Ends} {i : Nat} {u : TS} {H : Hp} {l0 : Addr} {us0 : List V} (e : σ[i]? = some (some (.ref l0))) (h0 : H l0 = some (.lst us0)) (n0 : us0.length ≤ 100) (all0 : ∀ v ∈ us0, ∃ t, At H v t ∧ sz t ≤ B) (t : ThA B n ta σ H0) (S : Same H0 H) (hn : n ≤ 100)
    (k : ∀ l us H', Same H0 H' → H' l = some (.lst us) → us.length = us0.length + n → (∀ v ∈ us, ∃ t, At H' v t ∧ sz t ≤ B) → u D (σ.set i (some (.ref l))) H') : tSeq (tAsg (tOp rCat (tVar i) (tLst ta)) (gName i)) u D σ H :=
  ⟨_, e, t H _ S fun vs H1 S1 l1 all => ⟨Nat.le_trans (show vs.length ≤ 100 by omega) (by decide), fun p np => ⟨l0, p, us0, vs, rfl, rfl, same_new np _ _ (S1 _ _ h0), upd_same, Nat.le_trans (show us0.length + vs.length ≤ 200 by omega) (by decide), fun r nr => by
    have S2 := (same_new (o := .lst vs) np).trans (same_new (o := .lst (us0 ++ vs)) nr)
    refine k r (us0 ++ vs) _ (S.trans (S1.trans S2)) upd_same (by rw [List.length_append, l1]) fun v hv => ?_
    rcases List.mem_append.mp hv with z | z
    · exact (all0 v z).imp fun t z => ⟨z.1.same (S1.trans S2), z.2⟩
    · exact (all v z).imp fun t z => ⟨z.1.same S2, z.2⟩⟩⟩⟩
end
def spOther : Sp := fun vs H Q _ => ∃ (x : V) (p : T) (n : List Int) (many cell : Int), vs = [x, .int many, .int cell] ∧ At H x p ∧ Good p n ∧
  ∀ (v : V) (t : T) (H' : Hp), Same H H' → At H' v t → sz t ≤ sz p + 10 → Q v H'
def spWrong : Sp := fun vs H Q _ => ∃ (x : V) (t : T) (n : List Int) (cell : Int), vs = [x, .int cell] ∧ At H x t ∧ Good t n ∧ sz t ≤ 100 ∧
  ∀ (v : V) (r : T) (H' : Hp), Same H H' → At H' v r → sz r ≤ 300 → Q v H'
section
variable {P : Program} {w : World} {K : PySem.W.Frag} {mg : Str → Option Value} {base : Heap} {kA : Addr}
theorem scOther : FnScope ["here", "many", "cell", "kind", "parts", "some"] ["here", "many", "cell"] (defScope sOther) := ⟨rfl, rfl, rfl, by decide +kernel, rfl, by decide +kernel, by decide +kernel⟩
theorem ok_other {f : Addr} {fd : FuncData} (F : Fun K "_law_other" "_law_other" sOther f fd) (Z : Nm K mg kA) : FnOk P w K mg base CX0 1 f fd ["here", "many", "cell"] spOther := by
  obtain ⟨gKIND, gPARTS, gMOST_BOXES, gKINDS, kk, ti, tint, tbool, tstr, ttup, tlist, tl, tany, ts, tr, kI, kB, kS, kT⟩ := Z
  refine F.ok scOther (fun vs H Q E h => ?_) (fun cdv A outer s H vs Q E hr h => ?_)
  · obtain ⟨x, p, n, many, cell, rfl, _⟩ := h
    rfl
  · obtain ⟨x, p, n, many, cell, rfl, hA, gp, q⟩ := h
    refine ⟨_, (pss_cons (ps_set (i := 3) scOther.nd rfl (Or.inl rfl) pe_str)
      (pss_cons (ps_set (i := 4) scOther.nd rfl (Or.inl rfl) (pe_tup (pa_cons (pv 0) (pa_cons (pv 1) pa_nil))))
      (pss_cons (ps_if (pt_val (pe_callB call_isi (by rfl) ti PyProof.Rows.boot_isinstance (pa_cons (pv 0) (pa_cons (pe_tyn rfl ttup PyProof.Rows.boot_tuple) pa_nil))))
      (pss_one (ps_asg (pv 0) (pg_tup rfl (pgs_cons (pg_name (i := 3) scOther.nd rfl (Or.inl rfl)) (pgs_cons (pg_name (i := 4) scOther.nd rfl (Or.inl rfl)) pgs_nil)))))
      pss_nil)
      (pss_cons (ps_set (i := 5) scOther.nd rfl (Or.inl rfl) (pe_lst (pa_cons (pe_tup (pa_cons (pv 3) (pa_cons (pe_slice sl_tup (pv 4) po_none (po_some pe_int)) pa_nil))) (pa_cons (pe_tup (pa_cons (pv 3) (pa_cons (pe_tup pa_nil) pa_nil))) (pa_cons (pe_tup (pa_cons pe_str (pa_cons (pv 4) pa_nil))) (pa_cons (pe_tup (pa_cons pe_str (pa_cons (pv 4) pa_nil))) (pa_cons (pe_tup (pa_cons pe_str (pa_cons (pv 4) pa_nil))) (pa_cons (pe_tup (pa_cons pe_str (pa_cons (pv 4) pa_nil))) (pa_cons (pe_tup (pa_cons pe_int (pa_cons (pv 4) pa_nil))) (pa_cons (pv 1) pa_nil))))))))))
      (pss_cons (ps_set (i := 5) scOther.nd rfl (Or.inl rfl) (pe_op op_cat (pv 5) (pe_lst (pa_cons (pe_tup (pa_cons pe_non (pa_cons (pv 4) pa_nil))) (pa_cons (pe_tup (pa_cons (pv 3) (pa_cons (pe_callTy call_list_of rfl tlist PyProof.Rows.boot_list (pa_cons (pv 4) pa_nil)) pa_nil))) (pa_cons (pe_tup (pa_cons (pv 3) (pa_cons (pv 4) (pa_cons pe_int pa_nil)))) (pa_cons (pe_lst (pa_cons (pv 3) (pa_cons (pv 4) pa_nil))) (pa_cons (pe_tup pa_nil) (pa_cons (pe_lst pa_nil) (pa_cons pe_str (pa_cons pe_str (pa_cons (pe_un un_neg pe_int) (pa_cons pe_dnewK (pa_cons pe_non pa_nil))))))))))))))
      (pss_cons (ps_set (i := 5) scOther.nd rfl (Or.inl rfl) (pe_op op_cat (pv 5) (pe_lst (pa_cons pe_bl (pa_cons pe_bl (pa_cons (pe_tup (pa_cons (pv 4) (pa_cons (pv 3) pa_nil))) (pa_cons (pe_tup (pa_cons (pv 3) (pa_cons pe_int pa_nil))) (pa_cons (pe_tup (pa_cons pe_str (pa_cons (pv 4) pa_nil))) (pa_cons pe_int (pa_cons (pe_op op_sub (pv 1) pe_int) (pa_cons (pe_op op_add (pv 1) pe_int) (pa_cons (pe_tup (pa_cons pe_str (pa_cons (pe_tup (pa_cons (pv 1) (pa_cons (pe_op op_add (pv 1) pe_int) pa_nil))) pa_nil))) pa_nil))))))))))))
      (pss_cons (ps_set (i := 5) scOther.nd rfl (Or.inl rfl) (pe_op op_cat (pv 5) (pe_lst (pa_cons (pe_tup (pa_cons pe_str (pa_cons (pe_tup (pa_cons (pv 1) (pa_cons (pv 0) pa_nil))) pa_nil))) (pa_cons (pe_tup (pa_cons (pv 1) pa_nil)) (pa_cons (pe_tup (pa_cons (pv 1) (pa_cons (pv 1) pa_nil))) (pa_cons (pe_op op_pow pe_int pe_int) (pa_cons (pe_tup (pa_cons (pe_lst (pa_cons (pv 3) pa_nil)) (pa_cons (pv 4) pa_nil))) (pa_cons (pe_tup (pa_cons pe_str (pa_cons (pe_tup (pa_cons pe_str (pa_cons pe_str pa_nil))) pa_nil))) (pa_cons pe_int (pa_cons pe_int pa_nil)))))))))))
      (pss_one (ps_ret (pe_ix ix_list (pv 5) (pe_op op_mod (pv 2) (pe_callB call_len_seq (by rfl) tl PySem.boot_len (pa_cons (pv 5) pa_nil))) (fun _ _ => rfl))))))))))), ?_⟩
    refine run_seq (run_next ?_)
    dsimp only
    refine ⟨_, rfl, _, rfl, by show 2 ≤ sizeLine; decide, fun pt npt => ?_⟩
    have S1 := same_new (o := .tup [x, .int many]) npt
    have h1 : (upd H pt (.tup [x, .int many])) pt = some (.tup [x, .int many]) := upd_same
    generalize upd H pt (.tup [x, .int many]) = H1 at S1 h1
    dsimp only
    refine seq_key (R := fun σ H2 => ∃ (kd : Str) (pa : Addr) (us : List V) (ts : List T), σ = [some x, some (.int many), some (.int cell), some (.str kd), some (.ref pa), none] ∧ Same H H2 ∧ H2 pa = some (.tup us) ∧ AtL H2 us ts ∧ 2 ≤ us.length ∧ 1 + szL ts ≤ sz p + 2) ?_ (fun k => ?_)
    · rintro σ H2 ⟨kd, pa, us, ts, rfl, S2, hpa, hL, h2, hs⟩
      have tH : ∀ σ : St, σ[0]? = some (some x) → Th (sz p) (tVar 0) σ H2 := fun σ e => th_var e (hA.same S2) (Nat.le_refl _)
      have tM : ∀ σ : St, σ[1]? = some (some (.int many)) → Th 1 (tVar 1) σ H2 := fun σ e => th_var e (.int many) (by simp only [sz]; exact Nat.le_refl _)
      have tK : ∀ σ : St, σ[3]? = some (some (.str kd)) → Th 1 (tVar 3) σ H2 := fun σ e => th_var e (.str kd) (by simp only [sz]; exact Nat.le_refl _)
      have tP : ∀ σ : St, σ[4]? = some (some (.ref pa)) → Th (sz p + 2) (tVar 4) σ H2 := fun σ e => th_var e (.tup hpa hL) (by simp only [sz]; exact hs)
      refine go_first (B := sz p + 10) (n := 8) (tha_cons (th_tup (ths_cons (tK _ rfl) (ths_cons (th_cut rfl hpa hL h2 hs) ths_nil)) (by decide)) (tha_cons (th_tup (ths_cons (tK _ rfl) (ths_cons (th_tup ths_nil (by decide)) ths_nil)) (by decide)) (tha_cons (th_tup (ths_cons th_str (ths_cons (tP _ rfl) ths_nil)) (by decide)) (tha_cons (th_tup (ths_cons th_str (ths_cons (tP _ rfl) ths_nil)) (by decide)) (tha_cons (th_tup (ths_cons th_str (ths_cons (tP _ rfl) ths_nil)) (by decide)) (tha_cons (th_tup (ths_cons th_str (ths_cons (tP _ rfl) ths_nil)) (by decide)) (tha_cons (th_tup (ths_cons th_int (ths_cons (tP _ rfl) ths_nil)) (by decide)) (tha_cons (tM _ rfl) tha_nil (by omega)) (by omega)) (by omega)) (by omega)) (by omega)) (by omega)) (by omega)) (by omega)) (Same.refl _) (by decide) fun l1 us1 H3 S3 e3 n3 a3 => ?_
      refine go_more (B := sz p + 10) (n := 11) (H0 := H2) rfl e3 (by omega) a3 (tha_cons (th_tup (ths_cons th_non (ths_cons (tP _ rfl) ths_nil)) (by decide)) (tha_cons (th_tup (ths_cons (tK _ rfl) (ths_cons (th_list rfl hpa) ths_nil)) (by decide)) (tha_cons (th_tup (ths_cons (tK _ rfl) (ths_cons (tP _ rfl) (ths_cons th_int ths_nil))) (by decide)) (tha_cons (th_lst (ths_cons (tK _ rfl) (ths_cons (tP _ rfl) ths_nil)) (by decide)) (tha_cons (th_tup ths_nil (by decide)) (tha_cons (th_lst ths_nil (by decide)) (tha_cons th_str (tha_cons th_str (tha_cons th_neg (tha_cons th_dic (tha_cons th_non tha_nil (by omega)) (by omega)) (by omega)) (by omega)) (by omega)) (by omega)) (by omega)) (by omega)) (by omega)) (by omega)) (by omega)) S3 (by decide) fun l2 us2 H4 S4 e4 n4 a4 => ?_
      refine go_more (B := sz p + 10) (n := 9) (H0 := H2) rfl e4 (by omega) a4 (tha_cons th_bl (tha_cons th_bl (tha_cons (th_tup (ths_cons (tP _ rfl) (ths_cons (tK _ rfl) ths_nil)) (by decide)) (tha_cons (th_tup (ths_cons (tK _ rfl) (ths_cons th_int ths_nil)) (by decide)) (tha_cons (th_tup (ths_cons th_str (ths_cons (tP _ rfl) ths_nil)) (by decide)) (tha_cons th_int (tha_cons (th_op rfl) (tha_cons (th_op rfl) (tha_cons (th_tup (ths_cons th_str (ths_cons (th_tup (ths_cons (tM _ rfl) (ths_cons (th_op rfl) ths_nil)) (by decide)) ths_nil)) (by decide)) tha_nil (by omega)) (by omega)) (by omega)) (by omega)) (by omega)) (by omega)) (by omega)) (by omega)) (by omega)) S4 (by decide) fun l3 us3 H5 S5 e5 n5 a5 => ?_
      refine go_more (B := sz p + 10) (n := 8) (H0 := H2) rfl e5 (by omega) a5 (tha_cons (th_tup (ths_cons th_str (ths_cons (th_tup (ths_cons (tM _ rfl) (ths_cons (tH _ rfl) ths_nil)) (by decide)) ths_nil)) (by decide)) (tha_cons (th_tup (ths_cons (tM _ rfl) ths_nil) (by decide)) (tha_cons (th_tup (ths_cons (tM _ rfl) (ths_cons (tM _ rfl) ths_nil)) (by decide)) (tha_cons th_pow (tha_cons (th_tup (ths_cons (th_lst (ths_cons (tK _ rfl) ths_nil) (by decide)) (ths_cons (tP _ rfl) ths_nil)) (by decide)) (tha_cons (th_tup (ths_cons th_str (ths_cons (th_tup (ths_cons th_str (ths_cons th_str ths_nil)) (by decide)) ths_nil)) (by decide)) (tha_cons th_int (tha_cons th_int tha_nil (by omega)) (by omega)) (by omega)) (by omega)) (by omega)) (by omega)) (by omega)) (by omega)) S5 (by decide) fun l4 us4 H6 S6 e6 n6 a6 => ?_
      have b0 := Int.emod_nonneg cell (show (us4.length : Int) ≠ 0 by omega)
      have b1 := Int.emod_lt_of_pos cell (show (0 : Int) < us4.length by omega)
      obtain ⟨j, hj⟩ := Int.eq_ofNat_of_zero_le b0
      have jl : j < us4.length := by omega
      refine ⟨_, rfl, _, rfl, _, rfl, _, _, rfl, .inl (SqL.of e6), _, _, rfl, rfl, by omega, _, _, _, us4[j], rfl, rfl, SqL.of e6, by rw [hj]; exact atI_nat (List.getElem?_eq_getElem jl), ?_⟩
      obtain ⟨t, ht, hs2⟩ := a6 _ (List.getElem_mem jl)
      exact q _ t H6 (S2.trans S6) ht hs2
    · refine ⟨_, rfl, _, _, _, _, rfl, rfl, (hA.same S1).ty, kT p, _, rfl, ?_⟩
      cases gp with
      | leaf i =>
        cases hA
        refine iteF (k _ _ ⟨"|", pt, [.int i, .int many], [.int i, .int many], rfl, S1, h1, .cons (.int i) (.cons (.int many) .nil), Nat.le_refl _, ?_⟩)
        simp only [szL, sz]
        omega
      | @node kd qs nss hk h2 hn hG =>
        cases hA with
        | @tup a0 vs0 ss e hL =>
        obtain ⟨b0, ws, rfl, e2, hQ⟩ := hL.knot
        have lq := hQ.len
        have nsz := sz_node kd qs
        refine iteT ⟨_, rfl, a0, _, rfl, SqT.of (S1 _ _ e), rfl, _, _, rfl, _, _, rfl, rfl, ?_⟩
        exact k _ _ ⟨kd, b0, ws, qs, rfl, S1, S1 _ _ e2, hQ.same S1, by omega, by omega⟩
end
end KU
set_option Elab.async false
set_option linter.all false
set_option maxRecDepth 100000
namespace L2
open PySem PySem.Spec PyProof.Rows PySem.W
end L2
set_option Elab.async false
set_option linter.all false
set_option maxRecDepth 100000
namespace L2
open PySem PySem.Spec PyProof.Rows
end L2
set_option Elab.async false
set_option linter.all false
set_option maxRecDepth 100000
namespace L2
open PySem PySem.Spec PyProof.Rows PySem.W
section
variable {X : Cx} {pins : List (Addr × Obj)} {σ : St} {H : Hp} {s : Shared}
end
end L2
set_option Elab.async false
set_option linter.all false
set_option maxRecDepth 100000
namespace L2
open PySem PySem.Spec PyProof.Rows PySem.W
section
variable {X : Cx}
end
end L2
set_option Elab.async false
set_option linter.all false
set_option maxRecDepth 100000
set_option maxHeartbeats 1000000
namespace KU
open PySem L2 Tre PySem.W
theorem go_for {K : PySem.W.Frag} {ta : TA} {B n : Nat} {σ : St} {H : Hp} {g : TG} {tb u : TS} {D : Ends} (t : ThA B n ta σ H) (hn : n ≤ 100)
    (k : ∀ l us H', Same H H' → H' l = some (.lst us) → us.length = n → (∀ v ∈ us, ∃ t, At H' v t ∧ sz t ≤ B) → tFor (fun _ _ R => R (Itl K l) H') g tb { D with nx := u D } σ H') : tSeq (tFor (iList K (tLst ta)) g tb) u D σ H :=
  t H _ (Same.refl _) fun vs H1 S1 l1 all => ⟨Nat.le_trans (show vs.length ≤ 100 by omega) (by decide), fun p np => ⟨p, rfl, ⟨_, SqL.of upd_same⟩, k p vs _ (S1.trans (same_new np)) upd_same l1 fun v hv => (all v hv).imp fun t z => ⟨z.1.same (same_new np), z.2⟩⟩⟩
section
variable {P : Program} {w : World} {K : PySem.W.Frag} {mg : Str → Option Value} {base : Heap} {kA : Addr}
theorem scWrong : FnScope ["tree", "cell", "knots", "here", "way"] ["tree", "cell"] (defScope sWrong) := ⟨rfl, rfl, rfl, by decide +kernel, rfl, by decide +kernel, by decide +kernel⟩
theorem ok_wrong {f fK fP fO : Addr} {fd dK dP dO : FuncData} (F : Fun K "_law_wrong" "_law_wrong" sWrong f fd) (tl : mg "len" = none) (Kn : Callee P w K mg base CX0 1 "_law_knots" fK dK ["tree"] spKnots)
    (Pu : Callee P w K mg base CX0 1 "_law_put" fP dP ["tree", "way", "new"] spPut) (Ot : Callee P w K mg base CX0 1 "_law_other" fO dO ["here", "many", "cell"] spOther) : FnOk P w K mg base CX0 2 f fd ["tree", "cell"] spWrong := by
  refine F.ok scWrong (fun vs H Q E h => ?_) (fun cdv A outer s H vs Q E hr h => ?_)
  · obtain ⟨x, t, n, cell, rfl, _⟩ := h
    rfl
  · obtain ⟨x, t, n, cell, rfl, hA, g, hz, q⟩ := h
    refine ⟨_, (pss_cons (ps_set (i := 2) scWrong.nd rfl (Or.inl rfl) (pe_call Kn.ok (hr.mono (show 1 ≤ 1 by decide)) rfl Kn.bound Kn.kp Kn.bd .nil pass0 (pa_cons (pv 0) pa_nil)))
      (pss_cons (ps_asg (pe_ix ix_list (pv 2) (pe_op op_mod (pe_op op_fdiv (pv 1) pe_int) (pe_callB call_len_seq (by rfl) tl PySem.boot_len (pa_cons (pv 2) pa_nil))) (fun _ _ => rfl)) (pg_tup rfl (pgs_cons (pg_name (i := 3) scWrong.nd rfl (Or.inl rfl)) (pgs_cons (pg_name (i := 4) scWrong.nd rfl (Or.inl rfl)) pgs_nil))))
      (pss_one (ps_ret (pe_call Pu.ok (hr.mono (show 1 ≤ 1 by decide)) rfl Pu.bound Pu.kp Pu.bd .nil pass0 (pa_cons (pv 0) (pa_cons (pv 4) (pa_cons (pe_call Ot.ok (hr.mono (show 1 ≤ 1 by decide)) rfl Ot.bound Ot.kp Ot.bd .nil pass0 (pa_cons (pv 3) (pa_cons (pe_op op_fdiv (pe_op op_add (pe_callB call_len_seq (by rfl) tl PySem.boot_len (pa_cons (pv 2) pa_nil)) pe_int) pe_int) (pa_cons (pv 1) pa_nil)))) pa_nil)))))))), ?_⟩
    refine ⟨_, rfl, x, t, n, rfl, hA, g, hz, fun l us H1 S1 hl u0 u1 all _ => ?_⟩
    have b0 := Int.emod_nonneg (cell / 36) (show (us.length : Int) ≠ 0 by omega)
    have b1 := Int.emod_lt_of_pos (cell / 36) (show (0 : Int) < us.length by omega)
    obtain ⟨j, hj⟩ := Int.eq_ofNat_of_zero_le b0
    have jl : j < us.length := by omega
    obtain ⟨a, v, lw, wy, p, ea, ht, hv, hlw, hway, np, gp⟩ := all _ (List.getElem_mem jl)
    dsimp only
    refine ⟨_, rfl, _, rfl, _, _, rfl, rfl, (show CDiv cell 36 from ⟨by decide, by decide⟩), _, rfl, _, _, rfl, .inl (SqL.of hl), _, _, rfl, rfl, by omega, _, _, _, us[j], rfl, rfl, SqL.of hl, by rw [hj]; exact atI_nat (List.getElem?_eq_getElem jl), ?_⟩
    rw [ea]
    refine ⟨a, _, rfl, SqT.of ht, rfl, _, _, rfl, _, _, rfl, rfl, ?_⟩
    have wl := hway.len
    refine ⟨_, rfl, _, rfl, _, rfl, _, rfl, _, _, rfl, .inl (SqL.of hl), _, _, rfl, rfl, _, _, rfl, rfl, (show CDiv _ 2 from ⟨by decide, by decide⟩), _, rfl, v, p, np, _, cell, rfl, hv.same S1, gp, fun u nw H2 S2 hu zu => ?_⟩
    exact ⟨x, t, p, lw, wy, u, nw, rfl, (hA.same S1).same S2, S2 _ _ hlw, hway, hu, hz, by omega, fun v r H3 S3 hv zr => q v r H3 (S1.trans (S2.trans S3)) hv (by omega)⟩
end
end KU
set_option Elab.async false
set_option linter.all false
set_option maxRecDepth 100000
namespace L2
open PySem PySem.Spec PyProof.Rows PySem.W
section
variable {P : Program} {w : World} {K : PySem.W.Frag} {mg : Str → Option Value} {base : Heap} {N : List Str} {qual : Str} {scope : Scope} {f : Addr} {cd : Value} {A : Around} {outer : List Env} {s₀ : Shared} {H₀ : Hp} {E : XK}
theorem passEE : Passes (CXE P w) (cxOf (CXE P w) P w K mg base N qual scope f cd A outer s₀ H₀ E) E := by
  intro pins σ H s e s' I q
  obtain ⟨ea, T, C, H', rfl, os, bare, un, hok, fly, q⟩ := q
  have I2 : Inv (cxOf (CXE P w) P w K mg base N qual scope f cd A outer s₀ H₀ E) pins σ H' s' := I.call' (ch := []) os un hok bare (fun b z => nomatch z)
  obtain ⟨oe, vs, a0, oT, ts, e1, e2, e3, e4, e5, e6, e7, e8⟩ := fly.ob
  have no0 : ∀ b, s.heap.get? b = none → s₀.heap.get? b = none := fun b z => by
    cases y : s₀.heap.get? b with
    | none => rfl
    | some o =>
      obtain ⟨o', z'⟩ := I.base.there b o y (fun m => nomatch m)
      rw [z] at z'
      cases z'
  have no2 : ∀ b, s'.heap.get? b = none → s₀.heap.get? b = none := fun b z => by
    cases y : s₀.heap.get? b with
    | none => rfl
    | some o =>
      obtain ⟨o', z'⟩ := I2.base.there b o y (fun m => nomatch m)
      rw [z] at z'
      cases z'
  have ff : s'.heap.FunFrames (hideAll s'.heap (ea :: T :: frs (envOfC qual scope s₀.heap.objs.size f cd :: outer))) (envOfC qual scope s₀.heap.objs.size f cd :: outer) := I2.hid _ fun b hb => List.mem_cons_of_mem _ (List.mem_cons_of_mem _ hb)
  have fl : Heap.FlyingW (hideAll s'.heap (ea :: T :: frs (envOfC qual scope s₀.heap.objs.size f cd :: outer))) (envOfC qual scope s₀.heap.objs.size f cd :: outer) ea (.ref C) a0 s'.heap :=
    ⟨fun b o z => of_hideAll _ z, hideAll_none _ List.mem_cons_self, ff, oe, vs, T, oT, ts, e1, ⟨e2, e4⟩, e3, e5, hideAll_none _ (List.mem_cons_of_mem _ List.mem_cons_self), fly.ne, e6, e7, e8⟩
  show wpAny _ _ (leaving _ _) _ _ _
  refine wpAny_leaves_onW I2.ok.frames rfl fl fun h2 fl2 up => ?_
  have inB : ∀ b o, b ≠ ea → b ≠ T → b ∉ frs (envOfC qual scope s₀.heap.objs.size f cd :: outer) → s'.heap.get? b = some o → h2.get? b = some o := fun b o n1 n2 nb z => fl2.1 b o (hideAll_get _ z (by
    intro m
    rcases List.mem_cons.mp m with m | m
    · exact n1 m
    · rcases List.mem_cons.mp m with m | m
      · exact n2 m
      · exact nb m))
  have upS : ∀ b o, b ∈ frs (envOfC qual scope s₀.heap.objs.size f cd :: outer) → s'.heap.get? b = some o → ∃ sl, h2.get? b = some { o with slots := sl } := fun b o nb z => by
    obtain ⟨_, o', z', hd⟩ := I2.stack.mem nb
    rw [z] at z'
    cases z'
    exact up b o z hd
  have notL : ∀ b o, s₀.heap.get? b = some o → b ∉ frs outer → b ∉ frs (envOfC qual scope s₀.heap.objs.size f cd :: outer) := fun b o z nb m => by
    rcases List.mem_cons.mp (I2.stkSub b m) with z' | z'
    · have := Heap.lt_size z
      have z' : b = s₀.heap.objs.size := z'
      rw [z'] at this
      exact Nat.lt_irrefl _ this
    · exact nb z'
  have neE : ∀ b o, s₀.heap.get? b = some o → b ≠ ea ∧ b ≠ T := fun b o z => ⟨(fun y => by rw [y, no0 _ fly.ne0] at z; cases z), (fun y => by rw [y, no0 _ fly.nT0] at z; cases z)⟩
  obtain ⟨_, _, _, oe', vs', T', oT', ts', a1, ⟨a2, a3⟩, a4, a5, a6, a7, a8, a9, a10⟩ := fl2
  have hT' : T' = T ∨ s'.heap.get? T' = none := by
    by_cases hTT : T' = T
    · exact .inl hTT
    · right
      cases z : s'.heap.get? T' with
      | none => rfl
      | some o =>
        by_cases hb : T' ∈ frs (envOfC qual scope s₀.heap.objs.size f cd :: outer)
        · obtain ⟨_, o', z', hd⟩ := I2.stack.mem hb
          obtain ⟨sl, z2⟩ := upS T' o hb z
          rw [z] at z'
          cases z'
          rw [a8] at z2
          cases z2
          exact absurd a9 (hd ts')
        · rw [hideAll_get _ z (by
            intro m
            rcases List.mem_cons.mp m with m | m
            · exact a7 m
            · rcases List.mem_cons.mp m with m | m
              · exact hTT m
              · exact hb m)] at a6
          cases a6
  have fT' : H' T' = none := by
    rcases hT' with e | e
    · rw [e]; exact fly.fT
    · exact I2.none_of e
  have nT' : s₀.heap.get? T' = none := by
    rcases hT' with e | e
    · rw [e]; exact no0 _ fly.nT0
    · exact no2 _ e
  refine ⟨ea, T', C, H', rfl, I2.os, I2.bare, ⟨fun b o z n nb _ => ?_, fun b o z n nb _ => ?_, fun b o z n _ => I2.base.free b o z n (fun m => nomatch m), fun b o z _ => ?_, I2.base.tups, I2.base.frzs, I2.base.tbls⟩, fun a o z => ?_,
    ⟨⟨oe', vs', a0, oT', ts', a1, a2, a4, a3, a5, a8, a9, a10⟩, a7, fly.fe, fT', no0 _ fly.ne0, nT'⟩, q⟩
  · exact inB b o (neE b o z).1 (neE b o z).2 (notL b o z nb) (I2.base.keep b o z n nb (fun m => nomatch m))
  · obtain ⟨sl, z1⟩ := I2.base.slot b o z n nb (fun m => nomatch m)
    obtain ⟨sl', z2⟩ := upS b _ (by
      show b ∈ frs _
      unfold frs
      rw [List.filterMap_cons]
      exact List.mem_cons_of_mem _ nb) z1
    exact ⟨sl', z2⟩
  · obtain ⟨o', z'⟩ := I2.base.there b o z (fun m => nomatch m)
    by_cases hb : b ∈ frs (envOfC qual scope s₀.heap.objs.size f cd :: outer)
    · obtain ⟨sl, z2⟩ := upS b o' hb z'
      exact ⟨_, z2⟩
    · exact ⟨o', inB b o' (neE b o z).1 (neE b o z).2 hb z'⟩
  · refine (I2.hok a o z).stay (fun b u hb r => ?_) (fun _ y => y) fun _ _ y => y
    have hbH : ∃ x, H' b = some x := by
      rcases hb with rfl | hb
      · exact ⟨_, z⟩
      · exact ⟨_, hb⟩
    obtain ⟨x, hx⟩ := hbH
    refine inB b u (fun m => ?_) (fun m => ?_) (fun m => ?_) r
    · rw [m, fly.fe] at hx; cases hx
    · rw [m, fly.fT] at hx; cases hx
    · have := I2.stkFree b m
      rw [hx] at this
      cases this
end
end L2
set_option Elab.async false
set_option linter.all false
set_option maxRecDepth 100000
namespace L2
open PySem PySem.Spec PyProof.Rows
section
variable {g : TG} {tc : TT} {te : TE} {σ0 : St} {H0 : Hp} {R : List V → Hp → Prop} {K : PySem.W.Frag} {a b : Addr} {xs ys : List V}
end
end L2
set_option Elab.async false
set_option linter.all false
set_option maxRecDepth 100000
namespace Lin
end Lin
namespace L2
open PySem PySem.Spec PyProof.Rows PySem.Builtin PySem.Builtin.Str Lin
section
variable {X : Cx}
end
end L2
set_option Elab.async false
set_option linter.all false
set_option maxRecDepth 100000
set_option maxHeartbeats 1000000
namespace Tre
open PySem
mutual
theorem Good.szN : ∀ {t : T} {n : List Int}, Good t n → sz t + 3 ≤ 4 * n.length
  | _, _, .leaf i => by simp [sz]
  | _, _, .node (k := k) (ps := ps) (nss := nss) hk h2 hn h => by
    have := GoodL.szN h
    have := sz_node k ps
    omega
theorem GoodL.szN : ∀ {ts : List T} {nss : List (List Int)}, GoodL ts nss → szL ts + 3 * ts.length ≤ 4 * nss.flatten.length
  | _, _, .nil => by simp [szL]
  | _, _, .cons h r => by
    have := h.szN
    have := GoodL.szN r
    rw [List.flatten_cons, List.length_append, List.length_cons]
    simp only [szL]
    omega
end
theorem GoodL.memN : ∀ {ts : List T} {nss : List (List Int)}, GoodL ts nss → ∀ p ∈ ts, ∃ n, Good p n ∧ ∀ i ∈ n, i ∈ nss.flatten
  | _, _, .nil, p, hp => (List.not_mem_nil hp).elim
  | _, _, .cons (ns := ns) (nss := nss) h r, p, hp => by
    rw [List.flatten_cons]
    rcases List.mem_cons.mp hp with e | e
    · rw [e]
      exact ⟨_, h, fun i hi => List.mem_append_left _ hi⟩
    · obtain ⟨n, g, z⟩ := r.memN p e
      exact ⟨n, g, fun i hi => List.mem_append_right _ (z i hi)⟩
theorem szMem : ∀ (r : List T) (p : T), p ∈ r → sz p ≤ szL r
  | q :: r, p, h => by
    simp only [szL]
    rcases List.mem_cons.mp h with z | z
    · rw [z]; omega
    · have := szMem r p z
      omega
theorem two_of {ps : List T} {p : T} (h2 : 2 ≤ ps.length) (hp : p ∈ ps) : sz p + 1 ≤ szL ps := by
  obtain ⟨i, hi, e⟩ := List.mem_iff_getElem.mp hp
  have c : ps[i]? = some p := by rw [List.getElem?_eq_getElem hi, e]
  match ps, h2, i, c with
  | a :: b :: r, _, 0, c =>
    have c : a = p := by simpa using c
    subst c
    have := sz_pos b
    simp only [szL]
    omega
  | a :: r, _, j + 1, c =>
    have := szMem r p (List.mem_of_getElem? (i := j) (by simpa using c))
    have := sz_pos a
    simp only [szL]
    omega
def okN (n : List Int) : Prop := ∀ i ∈ n, 0 ≤ i ∧ i < 24
theorem IsTree.okN {t : T} {n : List Int} (h : IsTree t) (g : Good t n) : okN n ∧ n.length ≤ 24 := by
  obtain ⟨x, gx, l, p⟩ := h
  have e := Good.uniq g gx
  subst e
  refine ⟨fun i hi => ?_, l⟩
  have := p.mem_iff.mp hi
  unfold up at this
  obtain ⟨j, hj, rfl⟩ := List.mem_map.mp this
  have := List.mem_range.mp hj
  omega
end Tre
namespace KU
open PySem L2 Tre PySem.W
def spRefT (C : Addr) : Sp := fun vs H Q E => ∃ (x : V) (t : T), vs = [x] ∧ At H x t ∧ sz t ≤ 1000 ∧ ((IsTree t ∧ ∀ H', Same H H' → Q .non H') ∨ (¬ IsTree t ∧ ∀ H', Same H H' → E (.ref C) none H'))
def spBoxes (C : Addr) : Sp := fun vs H Q E => ∃ (x : V) (t : T), vs = [x] ∧ At H x t ∧ sz t ≤ 1000 ∧ ((∃ n, IsTree t ∧ Good t n ∧ ∀ H', Same H H' → Q (.int n.length) H') ∨ (¬ IsTree t ∧ ∀ H', Same H H' → E (.ref C) none H'))
def spShow (C : Addr) : Sp := fun vs H Q E => ∃ (x : V) (t : T), vs = [x] ∧ At H x t ∧ sz t ≤ 1000 ∧ ((IsTree t ∧ ∀ (l : List Nat) H', Same H H' → Q (.str (txt l)) H') ∨ (¬ IsTree t ∧ ∀ H', Same H H' → E (.ref C) none H'))
def spWr (d : Nat) : Sp := fun vs H Q _ => ∃ (x : V) (t : T) (n : List Int), vs = [x] ∧ At H x t ∧ Good t n ∧ okN n ∧ sz t + 3 ≤ 4 * d ∧ d ≤ 24 ∧ ∀ (l : List Nat) (H' : Hp), Same H H' → l.length + 5 ≤ 10 * sz t → Q (.str (txt l)) H'
theorem txt_self (s : Str) : s = txt s.cps.toList := by
  cases s
  simp [txt]
theorem figs_len : ∀ j : Nat, j < 24 → (Str.ofString (toString (j : Int))).cps.toList.length ≤ 5 := by decide +kernel
theorem figs {i : Int} (h0 : 0 ≤ i) (h1 : i < 24) : ∃ l : List Nat, Str.ofString (toString i) = txt l ∧ l.length ≤ 5 := by
  obtain ⟨j, rfl⟩ := Int.eq_ofNat_of_zero_le h0
  exact ⟨_, txt_self _, figs_len j (by omega)⟩
theorem paren1 : ("(" : Str) = txt [40] := by decide +kernel
theorem paren2 : (")" : Str) = txt [41] := by decide +kernel
section
variable {P : Program} {w : World} {K : PySem.W.Frag} {mg : Str → Option Value} {base : Heap} {kA : Addr}
theorem scRefT : FnScope ["thing"] ["thing"] (defScope sRefT) := ⟨rfl, rfl, rfl, by decide +kernel, rfl, by decide +kernel, by decide +kernel⟩
theorem ok_refT {f fT C : Addr} {fd fdT : FuncData} (F : Fun K "refuse_no_tree" "refuse_no_tree" sRefT f fd) (ex : Exc K mg "NoTree" C) (Tr : Callee P w K mg base CX0 5 "is_tree" fT fdT ["thing"] spTree) : FnOk P w K mg base (CXE P w) 6 f fd ["thing"] (spRefT C) := by
  refine F.okE scRefT (fun vs H Q E h => ?_) (fun cdv A outer s H vs Q E hr hh h => ?_)
  · obtain ⟨x, t, rfl, _⟩ := h
    rfl
  · obtain ⟨x, t, rfl, hA, hz, h⟩ := h
    refine ⟨_, (pss_one (ps_if (pt_not (pt_val (pe_call Tr.ok hr rfl Tr.bound Tr.kp Tr.bd .nil pass0 (pa_cons (pv 0) pa_nil))))
      (pss_one (ps_raise ex hh rfl (pa_cons pe_str pa_nil)))
      pss_nil)), ?_⟩
    refine ⟨_, rfl, x, t, rfl, hA, small_of t hz, fun b H1 S1 hb => ?_⟩
    rcases h with ⟨iT, q⟩ | ⟨nT, qe⟩
    · have e : b = true := hb.mpr iT
      subst e
      exact ⟨_, rfl, iteF (q H1 S1)⟩
    · have e : b = false := by cases b with | false => rfl | true => exact absurd (hb.mp rfl) nT
      subst e
      exact ⟨_, rfl, iteT ⟨by show 1 ≤ sizeLine; decide, qe H1 S1⟩⟩
theorem scBoxes : FnScope ["tree"] ["tree"] (defScope sBoxes) := ⟨rfl, rfl, rfl, by decide +kernel, rfl, by decide +kernel, by decide +kernel⟩
theorem ok_boxes {f fR fN C : Addr} {fd fdR fdN : FuncData} (F : Fun K "boxes_of" "boxes_of" sBoxes f fd) (tl : mg "len" = none) (Re : Callee P w K mg base (CXE P w) 6 "refuse_no_tree" fR fdR ["thing"] (spRefT C)) (Nu : Callee P w K mg base CX0 4 "numbers_in" fN fdN ["thing"] spNum) : FnOk P w K mg base (CXE P w) 7 f fd ["tree"] (spBoxes C) := by
  refine F.okE scBoxes (fun vs H Q E h => ?_) (fun cdv A outer s H vs Q E hr hh h => ?_)
  · obtain ⟨x, t, rfl, _⟩ := h
    rfl
  · obtain ⟨x, t, rfl, hA, hz, h⟩ := h
    refine ⟨_, (pss_cons (ps_expr (pe_call Re.ok hr rfl Re.bound Re.kp Re.bd .nil passEE (pa_cons (pv 0) pa_nil)))
      (pss_one (ps_ret (pe_callB call_len_seq (by rfl) tl PySem.boot_len (pa_cons (pe_call Nu.ok (hr.mono (show 4 ≤ 6 by decide)) rfl Nu.bound Nu.kp Nu.bd .nil pass0 (pa_cons (pv 0) pa_nil)) pa_nil))))), ?_⟩
    rcases h with ⟨n, iT, g, q⟩ | ⟨nT, qe⟩
    · refine ⟨_, rfl, x, t, rfl, hA, hz, .inl ⟨iT, fun H1 S1 => ?_⟩⟩
      refine ⟨_, rfl, x, t, rfl, hA.same S1, small_of t hz, fun r l H2 S2 nl hl lr tell => ⟨l, _, rfl, .inl (SqL.of hl), ?_⟩⟩
      rw [List.length_map]
      rcases tell with ⟨y, gy, _, py⟩ | ⟨_, no⟩
      · rw [py.length_eq, Good.uniq gy g]
        exact q H2 (S1.trans S2)
      · exact absurd (no n g) (by have := (iT.okN g).2; omega)
    · exact ⟨_, rfl, x, t, rfl, hA, hz, .inr ⟨nT, qe⟩⟩
theorem scWrit : FnScope ["tree", "parts"] ["tree"] (defScope sWrit) := ⟨rfl, rfl, rfl, by decide +kernel, rfl, by decide +kernel, by decide +kernel⟩
theorem kinds_txt {k : Str} (h : isK k) : ∃ c : Nat, k = txt [c] := by
  rcases h with e | e
  · exact ⟨124, by rw [e]; decide +kernel⟩
  · exact ⟨45, by rw [e]; decide +kernel⟩
theorem glue_len : ∀ ls : List (List Nat), (Lin.glue ls).length ≤ (ls.map List.length).sum + ls.length
  | [] => Nat.zero_le _
  | [a] => by simp [Lin.glue]
  | a :: b :: r => by
    have := glue_len (b :: r)
    simp only [Lin.glue, List.length_append, List.length_cons, List.map_cons, List.sum_cons] at this ⊢
    omega
theorem ok_writ0 {f : Addr} {fd : FuncData} (F : Fun K "written" "written" sWrit f fd) : FnOk P w K mg base CX0 1 f fd ["tree"] (spWr 0) := by
  refine F.ok scWrit (fun vs H Q E h => ?_) (fun cdv A outer s H vs Q E hr h => ?_)
  · obtain ⟨x, t, n, rfl, _⟩ := h
    rfl
  · obtain ⟨x, t, n, rfl, _, _, _, hz, _⟩ := h
    omega
theorem ok_writ1 {f fW : Addr} {fd fdW : FuncData} {d : Nat} (F : Fun K "written" "written" sWrit f fd) (Z : Nm K mg kA) (Wo : Callee P w K mg base CX0 1 "is_whole" fW fdW ["thing"] spWhole) (Wr : Callee P w K mg base CX0 (d + 1) "written" f fd ["tree"] (spWr d)) : FnOk P w K mg base CX0 (d + 2) f fd ["tree"] (spWr (d + 1)) := by
  obtain ⟨gKIND, gPARTS, gMOST_BOXES, gKINDS, kk, ti, tint, tbool, tstr, ttup, tlist, tl, tany, ts, tr, kI, kB, kS, kT⟩ := Z
  refine F.ok scWrit (fun vs H Q E h => ?_) (fun cdv A outer s H vs Q E hr h => ?_)
  · obtain ⟨x, t, n, rfl, _⟩ := h
    rfl
  · obtain ⟨x, t, n, rfl, hA, g, ok, hz, hd, q⟩ := h
    refine ⟨_, (pss_cons (ps_if (pt_val (pe_call Wo.ok (hr.mono (by omega)) rfl Wo.bound Wo.kp Wo.bd .nil pass0 (pa_cons (pv 0) pa_nil)))
      (pss_one (ps_ret (pe_callTy call_str_int rfl tstr PyProof.Rows.boot_str (pa_cons (pv 0) pa_nil))))
      pss_nil)
      (pss_cons (ps_set (i := 1) scWrit.nd rfl (Or.inl rfl) (pe_bm PySem.F.plainAttrs_str PySem.F.slot_str_join PySem.F.type_str_join mt_joinB pe_str (by exact (pa_cons (pe_comp (Nc := ["part"]) (ix := [none]) rfl rfl (by exact (pi_tup (pe_ix ix_tup (pv 0) (pe_gi rfl gPARTS) (fun _ _ => rfl)))) (fun _ _ _ _ _ => (pg_name (i := 0) (by show (["part"] : List Str).Nodup; decide +kernel) rfl (Or.inl rfl))) (fun _ _ _ _ _ => pts_nil) (fun _ _ _ _ _ => (pe_call Wr.ok hr rfl Wr.bound Wr.kp Wr.bd .nil pass0 (pa_cons (pv 0) pa_nil)))) pa_nil))))
      (pss_one (ps_ret (pe_op op_add_str (pe_op op_add_str (pe_op op_add_str pe_str (pe_ix ix_tup (pv 0) (pe_gi rfl gKIND) (fun _ _ => rfl))) (pv 1)) pe_str))))), ?_⟩
    refine ⟨_, rfl, x, t, rfl, hA, _, rfl, ?_⟩
    cases g with
    | leaf i =>
      cases hA
      obtain ⟨h0, h1⟩ := ok i (List.mem_singleton.mpr rfl)
      obtain ⟨l, el, ll⟩ := figs h0 h1
      have lg : i.natAbs.log2 < 1920 := Nat.lt_of_le_of_lt (Nat.log2_le_self _) (by omega)
      refine iteT ⟨_, rfl, i, rfl, lg, ?_⟩
      rw [el]
      exact q l H (Same.refl _) (by simp only [sz]; omega)
    | @node k ps nss hk h2 hn hG =>
      cases hA with
      | @tup a0 vs0 ss e hL =>
      obtain ⟨b0, ws, rfl, e2, hQ⟩ := hL.knot
      have lq := hQ.len
      have nsz := sz_node k ps
      have lps := szL_len ps
      obtain ⟨c, rfl⟩ := kinds_txt hk
      refine iteF ?_
      refine run_next ?_
      dsimp only
      refine ⟨rfl, _, rfl, _, _, _, _, rfl, rfl, SqT.of e, rfl, b0, rfl, ⟨_, SqT.of e2⟩, cmp_tup (K := K) (a := b0) (xs := ws) (fun i ys σ H' => ∃ ls : List (List Nat), ys = ls.map (fun l => V.str (txt l)) ∧ ls.length = i ∧ (ls.map List.length).sum + 5 * i ≤ 10 * szL (ps.take i) ∧ Same H H' ∧ ∃ o, σ = [o]) ⟨[], rfl, rfl, Nat.le_refl _, Same.refl _, none, rfl⟩
        (fun i ys σ H' hi ⟨ls, e3, l3, _, S3, _⟩ => ⟨by rw [e3, List.length_map, l3]; exact Nat.le_trans (show i ≤ 1000000 by omega) (by decide), SqT.of (S3 _ _ e2)⟩) ?_ ?_⟩
      · rintro ys σ H1 ⟨ls, e3, l3, s3, S1, _⟩ la nl
        subst e3
        rw [lq, List.take_length] at s3
        have z3 : (ls.map List.length).sum + ls.length ≤ 100000 := by omega
        refine ⟨la, ls, rfl, rfl, SqL.of upd_same, Nat.le_trans z3 (by decide), ?_⟩
        have S2 := S1.trans (same_new (o := .lst (ls.map fun l => V.str (txt l))) nl)
        have gl := glue_len ls
        generalize upd H1 la (.lst (ls.map fun l => V.str (txt l))) = H2 at S2
        have ln : ∀ a b : List Nat, a.length + b.length ≤ 200000 → (txt a).length + (txt b).length ≤ sizeLine := fun a b h => by
          rw [txt_len, txt_len]
          exact Nat.le_trans h (by decide)
        refine ⟨_, rfl, _, _, _, _, rfl, rfl, SqT.of (S2 _ _ e), rfl, txt [40], txt [c], congrArg V.str paren1, rfl, ln _ _ (by simp), ?_⟩
        rw [txt_app]
        refine ⟨_, rfl, _, txt (Lin.glue ls), rfl, rfl, ln _ _ (by simp; omega), ?_⟩
        rw [txt_app]
        refine ⟨_, txt [41], rfl, congrArg V.str paren2, ln _ _ (by simp; omega), ?_⟩
        rw [txt_app]
        exact q _ H2 S2 (by simp; omega)
      · rintro i y ys σ H1 hy ⟨ls, e3, l3, s3, S1, o, rfl⟩
        subst e3
        obtain ⟨p, ep, hAp⟩ := hQ.get hy
        obtain ⟨hil, ev⟩ := List.getElem?_eq_some_iff.mp ep
        have pm : p ∈ ps := List.mem_of_getElem? ep
        obtain ⟨np, gp, inp⟩ := hG.memN p pm
        have two := two_of h2 pm
        dsimp only [gName, tYes]
        refine iteT ?_
        refine ⟨_, rfl, y, p, np, rfl, hAp.same S1, gp, fun j hj => ok j (inp j hj), by omega, by omega, fun l H2 S2 hl => ?_⟩
        refine ⟨ls ++ [l], by rw [List.map_append]; rfl, by rw [List.length_append, l3]; rfl, ?_, S1.trans S2, _, rfl⟩
        rw [← List.take_append_getElem hil, ev, szL_app, List.map_append, List.sum_append]
        simp only [szL, List.map_cons, List.map_nil, List.sum_cons, List.sum_nil]
        omega
theorem ok_writ {f fW : Addr} {fd fdW : FuncData} (F : Fun K "written" "written" sWrit f fd) (Z : Nm K mg kA) (Wo : Callee P w K mg base CX0 1 "is_whole" fW fdW ["thing"] spWhole) (bo : mg "written" = some (.ref f)) (kp : PySem.W.keepIn K (.ref f) = true) (bd : Binds K fd ["tree"] []) : ∀ d, FnOk P w K mg base CX0 (d + 1) f fd ["tree"] (spWr d)
  | 0 => ok_writ0 F
  | d + 1 => ok_writ1 F Z Wo ⟨ok_writ F Z Wo bo kp bd d, bo, kp, bd⟩
theorem scShow : FnScope ["tree"] ["tree"] (defScope sShow) := ⟨rfl, rfl, rfl, by decide +kernel, rfl, by decide +kernel, by decide +kernel⟩
theorem ok_show {f fR fN C : Addr} {fd fdR fdN : FuncData} (F : Fun K "show_tree" "show_tree" sShow f fd) (Re : Callee P w K mg base (CXE P w) 6 "refuse_no_tree" fR fdR ["thing"] (spRefT C)) (Wr : Callee P w K mg base CX0 25 "written" fN fdN ["tree"] (spWr 24)) : FnOk P w K mg base (CXE P w) 26 f fd ["tree"] (spShow C) := by
  refine F.okE scShow (fun vs H Q E h => ?_) (fun cdv A outer s H vs Q E hr hh h => ?_)
  · obtain ⟨x, t, rfl, _⟩ := h
    rfl
  · obtain ⟨x, t, rfl, hA, hz, h⟩ := h
    refine ⟨_, (pss_cons (ps_expr (pe_call Re.ok (hr.mono (by decide)) rfl Re.bound Re.kp Re.bd .nil passEE (pa_cons (pv 0) pa_nil)))
      (pss_one (ps_ret (pe_call Wr.ok hr rfl Wr.bound Wr.kp Wr.bd .nil pass0 (pa_cons (pv 0) pa_nil))))), ?_⟩
    rcases h with ⟨iT, q⟩ | ⟨nT, qe⟩
    · refine ⟨_, rfl, x, t, rfl, hA, hz, .inl ⟨iT, fun H1 S1 => ?_⟩⟩
      obtain ⟨n, g, l24, pn⟩ := id iT
      have := g.szN
      exact ⟨_, rfl, x, t, n, rfl, hA.same S1, g, (iT.okN g).1, by omega, by decide, fun l H2 S2 _ => q l H2 (S1.trans S2)⟩
    · exact ⟨_, rfl, x, t, rfl, hA, hz, .inr ⟨nT, qe⟩⟩
end
end KU
set_option Elab.async false
set_option linter.all false
set_option maxRecDepth 100000
set_option maxHeartbeats 1000000
namespace KU
open PySem L2 Tre PySem.W
theorem call_isiK {X : Cx} {K : PySem.W.Frag} (hK : X.K = K) : CallR X (.builtin "isinstance") (fun xs H Q => ∃ x c t b, xs = [x, c] ∧ isCls c = true ∧ TyX K H x t ∧ PySem.W.kitOne K t (clsV c) = some b ∧ Q (.bl b) H) := by
  subst hK
  exact call_isi
theorem call_isiTK {X : Cx} {K : PySem.W.Frag} (hK : X.K = K) : CallR X (.builtin "isinstance") (fun xs H Q => ∃ x p cs t b, xs = [x, .ref p] ∧ SqT K H p cs ∧ cs.all isCls = true ∧ TyX K H x t ∧ PySem.W.kitAny K t (cs.map clsV) = some b ∧ Q (.bl b) H) := by
  subst hK
  exact call_isiT
structure Kinds (K : PySem.W.Frag) (mg : Str → Option Value) (C0 C1 C2 C3 C4 C5 C6 C7 C8 C9 : Addr) : Prop where
  m0 : mg "PartError" = some (.ref C0)
  m1 : mg "NoPage" = some (.ref C1)
  m2 : mg "NoPicture" = some (.ref C2)
  m3 : mg "NoPlace" = some (.ref C3)
  m4 : mg "NoTree" = some (.ref C4)
  m5 : mg "NoNeeds" = some (.ref C5)
  m6 : mg "NoTexts" = some (.ref C6)
  m7 : mg "NoRoom" = some (.ref C7)
  m8 : mg "NoRow" = some (.ref C8)
  m9 : mg "NoNumber" = some (.ref C9)
  mv : mg "ValueError" = none
  cP : ExcCls K C0
  c3 : ExcCls K C4
  up : mroIn K C4 (.ref C0) = some true
  k3 : kitOne K (.ref C4) (.ref C4) = some true
  kv : kitOne K (.ref C4) (.type "ValueError") = some true
  kA : kitAny K (.ref C4) [.ref C5, .ref C9, .ref C1, .ref C2, .ref C3, .ref C7, .ref C8, .ref C6] = some false
theorem boot_VE : bootBuiltins "ValueError" = some (.type "ValueError") := by decide +kernel
theorem paired_get {R : V → T → Prop} : ∀ {us : List V} {ps : List T} {i : Nat} {u : V}, Paired R us ps → us[i]? = some u → ∃ p, ps[i]? = some p ∧ R u p
  | _, _, _, _, .nil, e => by simp at e
  | _, _, 0, _, .cons h _, e => by simp at e; subst e; exact ⟨_, rfl, h⟩
  | _, _, i + 1, u, .cons _ r, e => by
    obtain ⟨t, h1, h2⟩ := paired_get (i := i) (u := u) r (by simpa using e)
    exact ⟨t, by simpa using h1, h2⟩
def spCount : Sp := fun vs H Q _ => ∃ (x : V) (t : T) (n : List Int), vs = [x] ∧ At H x t ∧ Good t n ∧ sz t ≤ 100 ∧ ∀ H', Same H H' → Q (.int n.length) H'
def spRefused : Sp := fun vs H Q _ => ∃ (x : V) (t : T) (way : Int), vs = [x, .int way] ∧ At H x t ∧ sz t ≤ 1000 ∧ ¬ IsTree t ∧ ∀ H', Same H H' → Q (.bl true) H'
section
variable {P : Program} {w : World} {K : PySem.W.Frag} {mg : Str → Option Value} {base : Heap} {kA : Addr}
theorem scCount : FnScope ["tree"] ["tree"] (defScope sCount) := ⟨rfl, rfl, rfl, by decide +kernel, rfl, by decide +kernel, by decide +kernel⟩
theorem ok_count {f fK fL : Addr} {fd dK dL : FuncData} (F : Fun K "_law_count" "_law_count" sCount f fd) (tl : mg "len" = none) (Kn : Callee P w K mg base CX0 1 "_law_knots" fK dK ["tree"] spKnots) (Lh : Callee P w K mg base CX0 1 "_law_whole" fL dL ["found"] spWhole) : FnOk P w K mg base CX0 2 f fd ["tree"] spCount := by
  refine F.ok scCount (fun vs H Q E h => ?_) (fun cdv A outer s H vs Q E hr h => ?_)
  · obtain ⟨x, t, n, rfl, _⟩ := h
    rfl
  · obtain ⟨x, t, n, rfl, hA, g, hz, q⟩ := h
    refine ⟨_, (pss_one (ps_ret (pe_callB call_len_seq (by rfl) tl PySem.boot_len (pa_cons (pe_comp (Nc := ["here", "way"]) (ix := [none, none]) rfl rfl (by refine' pi_list ?zz; case zz => exact (pe_call Kn.ok hr rfl Kn.bound Kn.kp Kn.bd .nil pass0 (pa_cons (pv 0) pa_nil))) (fun _ _ _ _ _ => (pg_tupK (K := K) (n := 2) rfl rfl (pgs_cons (pg_name (i := 0) (by show (["here", "way"] : List Str).Nodup; decide +kernel) rfl (Or.inl rfl)) (pgs_cons (pg_name (i := 1) (by show (["here", "way"] : List Str).Nodup; decide +kernel) rfl (Or.inl rfl)) pgs_nil)))) (fun _ _ _ _ _ => (pts_one (pt_val (pe_call Lh.ok hr rfl Lh.bound Lh.kp Lh.bd .nil pass0 (pa_cons (pv 0) pa_nil))))) (fun _ _ _ _ _ => (pv 0))) pa_nil)))), ?_⟩
    refine ⟨_, rfl, x, t, n, rfl, hA, g, hz, fun l us H1 S1 hl u0 u1 _ hfp => ?_⟩
    obtain ⟨fps, hP, hc⟩ := hfp
    have lp := Paired.length hP
    refine ⟨l, rfl, ⟨_, SqL.of hl⟩, cmp_list (K := K) (a := l) (xs := us) (fun i ys σ H' => ys.length = ((fps.take i).filter isI).length ∧ H' = H1 ∧ ∃ o0 o1, σ = [o0, o1]) ⟨rfl, rfl, none, none, rfl⟩
      (fun i ys σ H' hi ⟨e, e3, _⟩ => ⟨Nat.le_trans (show ys.length ≤ 100 by rw [e]; have := List.length_filter_le isI (fps.take i); rw [List.length_take] at this; omega) (by decide), by rw [e3]; exact SqL.of hl⟩) ?_ ?_⟩
    · rintro ys σ H' ⟨e, rfl, _⟩ la nl
      rw [lp, List.take_length, hc] at e
      refine ⟨la, ys, rfl, .inl (SqL.of upd_same), ?_⟩
      rw [e]
      exact q _ (S1.trans (same_new nl))
    · rintro i y ys σ H' hy ⟨e, rfl, o0, o1, rfl⟩
      obtain ⟨p, ep, a, v, lw, rfl, ha, hv⟩ := paired_get hP hy
      obtain ⟨hil, ev⟩ := List.getElem?_eq_some_iff.mp ep
      refine ⟨a, _, rfl, SqT.of ha, rfl, _, _, rfl, _, _, rfl, rfl, ?_⟩
      refine ⟨_, rfl, v, p, rfl, hv.same S1, _, rfl, ?_⟩
      have ef : ((fps.take (i + 1)).filter isI).length = ((fps.take i).filter isI).length + if isI p = true then 1 else 0 := by
        rw [← List.take_append_getElem hil, ev, List.filter_append, List.length_append]
        cases hI : isI p <;> simp [hI]
      cases hI : isI p with
      | true =>
        rw [hI] at ef
        refine iteT ⟨_, rfl, ?_, rfl, _, _, rfl⟩
        rw [List.length_append, ef, e]
        rfl
      | false =>
        rw [hI] at ef
        exact iteF ⟨by rw [ef, e]; rfl, rfl, _, _, rfl⟩
theorem scRef : FnScope ["thing", "way", "caught", "e"] ["thing", "way"] (defScope sRef) := ⟨rfl, rfl, rfl, by decide +kernel, rfl, by decide +kernel, by decide +kernel⟩
theorem ok_refused {f fB fS C0 C1 C2 C3 C4 C5 C6 C7 C8 C9 : Addr} {fd fdB fdS : FuncData} (F : Fun K "_law_refused" "_law_refused" sRef f fd) (ti : mg "isinstance" = none) (Z : Kinds K mg C0 C1 C2 C3 C4 C5 C6 C7 C8 C9)
    (Bo : Callee P w K mg base (CXE P w) 7 "boxes_of" fB fdB ["tree"] (spBoxes C4)) (Sh : Callee P w K mg base (CXE P w) 26 "show_tree" fS fdS ["tree"] (spShow C4)) : FnOk P w K mg base CX0 27 f fd ["thing", "way"] spRefused := by
  refine F.ok scRef (fun vs H Q E h => ?_) (fun cdv A outer s H vs Q E hr h => ?_)
  · obtain ⟨x, t, way, rfl, _⟩ := h
    rfl
  · obtain ⟨x, t, way, rfl, hA, hz, nT, q⟩ := h
    refine ⟨_, pss_cons (ps_set (i := 2) scRef.nd rfl (Or.inl rfl) pe_bl)
      (pss_cons (ps_try (i := 3) rfl rfl scRef.nd rfl rfl rfl Z.m0 Z.cP
        (fun pl Ec => pss_one (ps_if (pt_cmpR op_eq (pv 1) pe_int (nomark _)) (pss_one (ps_expr (pe_callX Bo.ok (hr.mono (show 7 ≤ 26 by decide)) rfl Bo.bound Bo.kp Bo.bd .nil rfl (pa_cons (pv 0) pa_nil)))) (pss_one (ps_expr (pe_callX Sh.ok hr rfl Sh.bound Sh.kp Sh.bd .nil rfl (pa_cons (pv 0) pa_nil))))))
        (fun ee => pss_cons (ps_set (i := 2) scRef.nd rfl (Or.inl rfl) (pe_and (pe_callB (call_isiK (K := K) rfl) (by rfl) ti PyProof.Rows.boot_isinstance (pa_cons (pv 3) (pa_cons (pe_cls rfl Z.m4) pa_nil))) (pe_one (pe_callB (call_isiK (K := K) rfl) (by rfl) ti PyProof.Rows.boot_isinstance (pa_cons (pv 3) (pa_cons (pe_tyn rfl Z.mv boot_VE) pa_nil))))))
          (pss_one (ps_if (pt_val (pe_callB (call_isiTK (K := K) rfl) (by rfl) ti PyProof.Rows.boot_isinstance (pa_cons (pv 3) (pa_cons (pe_tup (pa_cons (pe_cls rfl Z.m5) (pa_cons (pe_cls rfl Z.m9) (pa_cons (pe_cls rfl Z.m1) (pa_cons (pe_cls rfl Z.m2) (pa_cons (pe_cls rfl Z.m3) (pa_cons (pe_cls rfl Z.m7) (pa_cons (pe_cls rfl Z.m8) (pa_cons (pe_cls rfl Z.m6) pa_nil))))))))) pa_nil))))
            (pss_one (ps_set (i := 2) scRef.nd rfl (Or.inl rfl) pe_bl)) pss_nil))))
      (pss_one (ps_ret (pv 2)))), ?_⟩
    refine ⟨_, rfl, rfl, _, rfl, ite2 (fun c => ⟨_, rfl, x, t, rfl, hA, hz, .inr ⟨nT, fun H1 S1 => ⟨C4, rfl, Z.up, fun ea hea => ?_⟩⟩⟩) (fun c => ⟨_, rfl, x, t, rfl, hA, hz, .inr ⟨nT, fun H1 S1 => ⟨C4, rfl, Z.up, fun ea hea => ?_⟩⟩⟩)⟩
    all_goals
      have SE := same_new (o := .ext (ExcIs ea C4)) hea
      have hE : (upd H1 ea (.ext (ExcIs ea C4))) ea = some (.ext (ExcIs ea C4)) := upd_same
      generalize upd H1 ea (.ext (ExcIs ea C4)) = H2 at SE hE ⊢
      refine ⟨_, rfl, _, _, _, _, rfl, rfl, .exc hE Z.c3, Z.k3, _, rfl, iteT ⟨_, rfl, _, _, _, _, rfl, rfl, .exc hE Z.c3, Z.kv, ?_⟩⟩
      refine ⟨_, rfl, by show 8 ≤ sizeLine; decide, fun t1 nt1 => ?_⟩
      have St := same_new (o := .tup [.ref C5, .ref C9, .ref C1, .ref C2, .ref C3, .ref C7, .ref C8, .ref C6]) nt1
      refine ⟨_, _, _, _, _, rfl, SqT.of upd_same, rfl, .exc (St _ _ hE) Z.c3, Z.kA, _, rfl, iteF ?_⟩
      exact ⟨_, rfl, q _ (S1.trans (SE.trans St))⟩
theorem scAsked : FnScope ["thing", "found"] ["thing"] (defScope sAsked) := ⟨rfl, rfl, rfl, by decide +kernel, rfl, by decide +kernel, by decide +kernel⟩
theorem ok_asked {f fI fR fB fS fL fC C : Addr} {fd dI dR dB dS dL dC : FuncData} (F : Fun K "_law_asked" "_law_asked" sAsked f fd) (Z : Nm K mg kA) (Is : Callee P w K mg base CX0 2 "_law_is" fI dI ["thing"] spIs) (Rf : Callee P w K mg base CX0 27 "_law_refused" fR dR ["thing", "way"] spRefused)
    (Bo : Callee P w K mg base (CXE P w) 7 "boxes_of" fB dB ["tree"] (spBoxes C)) (Sh : Callee P w K mg base (CXE P w) 26 "show_tree" fS dS ["tree"] (spShow C)) (Lh : Callee P w K mg base CX0 1 "_law_whole" fL dL ["found"] spWhole) (Co : Callee P w K mg base CX0 2 "_law_count" fC dC ["tree"] spCount) : FnOk P w K mg base CX0 28 f fd ["thing"] spAsked := by
  obtain ⟨gKIND, gPARTS, gMOST_BOXES, gKINDS, kk, ti, tint, tbool, tstr, ttup, tlist, tl, tany, ts, tr, kI, kB, kS, kT⟩ := Z
  refine F.ok scAsked (fun vs H Q E h => ?_) (fun cdv A outer s H vs Q E hr h => ?_)
  · obtain ⟨x, t, rfl, _⟩ := h
    rfl
  · obtain ⟨x, t, rfl, hA, hz, q⟩ := h
    refine ⟨_, (pss_cons (ps_if (pt_not (pt_val (pe_call Is.ok (hr.mono (show 2 ≤ 27 by decide)) rfl Is.bound Is.kp Is.bd .nil pass0 (pa_cons (pv 0) pa_nil))))
      (pss_one (ps_ret (pe_and (pe_call Rf.ok hr rfl Rf.bound Rf.kp Rf.bd .nil pass0 (pa_cons (pv 0) (pa_cons pe_int pa_nil))) (pe_one (pe_call Rf.ok hr rfl Rf.bound Rf.kp Rf.bd .nil pass0 (pa_cons (pv 0) (pa_cons pe_int pa_nil)))))))
      pss_nil)
      (pss_cons (ps_set (i := 1) scAsked.nd rfl (Or.inl rfl) (pe_call Bo.ok (hr.mono (show 7 ≤ 27 by decide)) rfl Bo.bound Bo.kp Bo.bd .nil passE0 (pa_cons (pv 0) pa_nil)))
      (pss_one (ps_ret (pe_and (pe_call Lh.ok (hr.mono (show 1 ≤ 27 by decide)) rfl Lh.bound Lh.kp Lh.bd .nil pass0 (pa_cons (pv 1) pa_nil)) (pe_and (pe_cmpR op_eq (pv 1) (pe_call Co.ok (hr.mono (show 2 ≤ 27 by decide)) rfl Co.bound Co.kp Co.bd .nil pass0 (pa_cons (pv 0) pa_nil)) (nomark _)) (pe_one (pe_callB call_isi (by rfl) ti PyProof.Rows.boot_isinstance (pa_cons (pe_call Sh.ok (hr.mono (show 26 ≤ 27 by decide)) rfl Sh.bound Sh.kp Sh.bd .nil passE0 (pa_cons (pv 0) pa_nil)) (pa_cons (pe_tyn rfl tstr PyProof.Rows.boot_str) pa_nil)))))))))), ?_⟩
    refine ⟨_, rfl, x, t, rfl, hA, hz, fun b H1 S1 hb => ⟨_, rfl, ?_⟩⟩
    cases b with
    | false =>
      have nT : ¬ IsTree t := fun z => by cases hb.mpr z
      refine iteT ⟨_, rfl, x, t, 0, rfl, hA.same S1, hz, nT, fun H2 S2 => ⟨_, rfl, iteT ?_⟩⟩
      exact ⟨_, rfl, x, t, 1, rfl, (hA.same S1).same S2, hz, nT, fun H3 S3 => q H3 (S1.trans (S2.trans S3))⟩
    | true =>
      have iT : IsTree t := hb.mp rfl
      obtain ⟨n, g, l24, pn⟩ := id iT
      have sN := g.szN
      refine iteF ?_
      refine run_next ?_
      dsimp only
      refine ⟨_, rfl, x, t, rfl, hA.same S1, hz, .inl ⟨n, iT, g, fun H2 S2 => ?_⟩⟩
      have hA2 := (hA.same S1).same S2
      refine ⟨_, rfl, .int n.length, .int n.length, rfl, .int _, _, rfl, iteT ?_⟩
      refine ⟨_, rfl, _, rfl, x, t, n, rfl, hA2, g, by omega, fun H3 S3 => ⟨rfl, _, rfl, ?_⟩⟩
      rw [decide_eq_true rfl]
      refine iteT ⟨_, rfl, x, t, rfl, hA2.same S3, hz, .inl ⟨iT, fun l H4 S4 => ?_⟩⟩
      exact ⟨_, _, _, _, rfl, rfl, (At.str (txt l) : At H4 (.str (txt l)) (.str (txt l))).ty, kS (.str (txt l)), q H4 (S1.trans (S2.trans (S3.trans S4)))⟩
end
end KU
set_option Elab.async false
set_option linter.all false
set_option maxRecDepth 100000
set_option maxHeartbeats 1000000
namespace KU
open PySem L2 Tre PySem.W
def spLaw (K : PySem.W.Frag) : Sp := fun vs H Q _ => ∃ (a : Addr) (ns : List Int), vs = [.ref a] ∧ SqL K H a (ns.map V.int) ∧ ns.length ≤ 63 ∧ ∀ H', Q (.bl true) H'
section
variable {P : Program} {w : World} {K : PySem.W.Frag} {mg : Str → Option Value} {base : Heap} {kA : Addr}
theorem scLaw : FnScope ["script", "tree", "cell", "thing"] ["script"] (defScope sLaw) := ⟨rfl, rfl, rfl, by decide +kernel, rfl, by decide +kernel, by decide +kernel⟩
theorem ok_law {f fLt fBo fCe fAs fWr C : Addr} {fd dLt dBo dCe dAs dWr : FuncData} (F : Fun K "law" "law" sLaw f fd) (tl : mg "len" = none)
    (Lt : Callee P w K mg base CX0 2 "_law_tree" fLt dLt ["cells"] spLtree) (Bo : Callee P w K mg base (CXE P w) 7 "boxes_of" fBo dBo ["tree"] (spBoxes C))
    (Ce : Callee P w K mg base CX0 1 "_law_cell_at" fCe dCe ["script", "k"] (spCellAt K)) (As : Callee P w K mg base CX0 28 "_law_asked" fAs dAs ["thing"] spAsked) (Wr : Callee P w K mg base CX0 2 "_law_wrong" fWr dWr ["tree", "cell"] spWrong) : FnOk P w K mg base CX0 29 f fd ["script"] (spLaw K) := by
  refine F.ok scLaw (fun vs H Q E h => ?_) (fun cdv A outer s H vs Q E hr h => ?_)
  · obtain ⟨a, ns, rfl, _⟩ := h
    rfl
  · obtain ⟨a, ns, rfl, hS, h63, q⟩ := h
    refine ⟨_, (pss_cons (ps_set (i := 1) scLaw.nd rfl (Or.inl rfl) (pe_call Lt.ok (hr.mono (show 2 ≤ 28 by decide)) rfl Lt.bound Lt.kp Lt.bd .nil pass0 (pa_cons (pe_slice sl_list (pv 0) (po_some pe_int) (po_some pe_int)) pa_nil)))
      (pss_cons (ps_if (PW.pt (pw_or (pt_cmpR op_ne (pe_call Bo.ok (hr.mono (show 7 ≤ 28 by decide)) rfl Bo.bound Bo.kp Bo.bd .nil passE0 (pa_cons (pv 1) pa_nil)) (pe_op op_add (pe_callB call_len_seq (by rfl) tl PySem.boot_len (pa_cons (pe_slice sl_list (pv 0) (po_some pe_int) (po_some pe_int)) pa_nil)) pe_int) (nomark _)) (pw_or1 (pt_not (pt_val (pe_call As.ok hr rfl As.bound As.kp As.bd .nil pass0 (pa_cons (pv 1) pa_nil)))))))
      (pss_one (ps_ret pe_bl))
      pss_nil)
      (pss_cons (ps_for PassesOwn.never rfl (pi_list (pe_lst (pa_cons (pe_call Ce.ok (hr.mono (show 1 ≤ 28 by decide)) rfl Ce.bound Ce.kp Ce.bd .nil pass0 (pa_cons (pv 0) (pa_cons pe_int pa_nil))) (pa_cons (pe_call Ce.ok (hr.mono (show 1 ≤ 28 by decide)) rfl Ce.bound Ce.kp Ce.bd .nil pass0 (pa_cons (pv 0) (pa_cons pe_int pa_nil))) (pa_cons (pe_call Ce.ok (hr.mono (show 1 ≤ 28 by decide)) rfl Ce.bound Ce.kp Ce.bd .nil pass0 (pa_cons (pv 0) (pa_cons pe_int pa_nil))) pa_nil))))) (pg_name (i := 2) scLaw.nd rfl (Or.inl rfl))
      (pss_one (ps_if (pt_not (pt_val (pe_call As.ok hr rfl As.bound As.kp As.bd .nil pass0 (pa_cons (pe_call Wr.ok (hr.mono (show 2 ≤ 28 by decide)) rfl Wr.bound Wr.kp Wr.bd .nil pass0 (pa_cons (pv 1) (pa_cons (pv 2) pa_nil))) pa_nil))))
        (pss_one (ps_ret pe_bl))
        pss_nil)))
      (pss_cons (ps_for PassesOwn.never rfl (pi_list (pe_lst (pa_cons (pe_lst (pa_cons (pv 1) pa_nil)) (pa_cons (pe_tup (pa_cons (pv 1) pa_nil)) (pa_cons (pe_tup (pa_cons pe_str (pa_cons (pe_lst (pa_cons pe_int (pa_cons pe_int pa_nil))) pa_nil))) (pa_cons (pe_tup (pa_cons pe_int (pa_cons pe_int pa_nil))) (pa_cons pe_non (pa_cons pe_str (pa_cons pe_int (pa_cons pe_bl (pa_cons (pe_lst pa_nil) (pa_cons pe_dnewK pa_nil)))))))))))) (pg_name (i := 3) scLaw.nd rfl (Or.inl rfl))
      (pss_one (ps_if (pt_not (pt_val (pe_call As.ok hr rfl As.bound As.kp As.bd .nil pass0 (pa_cons (pv 3) pa_nil))))
        (pss_one (ps_ret pe_bl))
        pss_nil)))
      (pss_one (ps_ret (pe_call As.ok hr rfl As.bound As.kp As.bd .nil pass0 (pa_cons (pv 1) pa_nil)))))))), ?_⟩
    obtain ⟨cells, hcut⟩ := cut_ints ns (some 2) (some 25)
    have hcl : cells.length ≤ 23 := by
      have e := congrArg List.length hcut
      unfold cutV at e
      have z1 : HT.sIx (ns.map V.int).length 0 (some (2 : Int)) = min 2 (ns.map V.int).length := HT.sIx_nat _ _ 2
      have z2 : HT.sIx (ns.map V.int).length (ns.map V.int).length (some (25 : Int)) = min 25 (ns.map V.int).length := HT.sIx_nat _ _ 25
      rw [z1, z2, List.length_take, List.length_drop, List.length_map, List.length_map] at e
      omega
    refine ⟨_, rfl, _, rfl, _, rfl, a, _, rfl, hS, fun pc nc => ?_⟩
    rw [hcut]
    have S1 := same_new (o := .lst (cells.map V.int)) nc
    have hpc : (upd H pc (.lst (cells.map V.int))) pc = some (.lst (cells.map V.int)) := upd_same
    generalize upd H pc (.lst (cells.map V.int)) = H1 at S1 hpc
    refine ⟨pc, cells, rfl, hpc, hcl, fun v t n H2 S2 hv g pn hz => ?_⟩
    have S02 := S1.trans S2
    have nl := pn.length_eq
    rw [up_len] at nl
    have isT : IsTree t := ⟨n, g, by omega, by rw [nl]; exact pn⟩
    dsimp only
    refine ⟨_, rfl, v, t, rfl, hv, by omega, .inl ⟨n, isT, g, fun H3 S3 => ?_⟩⟩
    refine ⟨_, rfl, _, rfl, _, rfl, a, _, rfl, (S02.trans S3).seq hS, fun pc2 nc2 => ?_⟩
    rw [hcut]
    have S34 := same_new (o := .lst (cells.map V.int)) nc2
    have hpc2 : (upd H3 pc2 (.lst (cells.map V.int))) pc2 = some (.lst (cells.map V.int)) := upd_same
    generalize upd H3 pc2 (.lst (cells.map V.int)) = H3b at S34 hpc2
    refine ⟨pc2, _, rfl, .inl (SqL.of hpc2), _, _, rfl, rfl, rfl, _, rfl, ?_⟩
    have en : decide (V.int (n.length : Int) = V.int (((cells.map V.int).length : Nat) + 1)) = true := decide_eq_true (by rw [List.length_map, nl]; rfl)
    rw [en]
    refine iteF ?_
    refine ⟨_, rfl, v, t, rfl, (hv.same S3).same S34, by omega, fun H4 S34b => ?_⟩
    have S4 := S34.trans S34b
    refine ⟨_, rfl, iteF ?_⟩
    have S24 := S3.trans S4
    have S04 := S02.trans S24
    have hv4 := hv.same S24
    refine run_next ?_
    dsimp only
    refine ⟨_, rfl, a, ns, 0, rfl, S04.seq hS, by decide, fun c0 => ⟨_, rfl, a, ns, 1, rfl, S04.seq hS, by decide, fun c1 => ⟨_, rfl, a, ns, 25, rfl, S04.seq hS, by decide, fun c2 => ⟨by show 3 ≤ sizeLine; decide, fun pl npl => ?_⟩⟩⟩⟩
    have S5 := S04.trans (same_new (o := .lst [.int c0, .int c1, .int c2]) npl)
    have S45 := same_new (o := .lst [.int c0, .int c1, .int c2]) npl
    have h5 : (upd H4 pl (.lst [.int c0, .int c1, .int c2])) pl = some (.lst ([c0, c1, c2].map V.int)) := upd_same
    generalize upd H4 pl (.lst [.int c0, .int c1, .int c2]) = H5 at S5 h5 S45
    refine ⟨pl, rfl, ⟨_, SqL.of h5⟩, ?_⟩
    refine for_list (K := K) (a := pl) (xs := [c0, c1, c2].map V.int) (fun i σ H6 => ∃ (o2 : Option V), σ = [some (.ref a), some v, o2, none] ∧ Same H5 H6)
      ⟨none, rfl, Same.refl _⟩ (fun i σ H6 _ ⟨_, _, S6⟩ => SqL.of (S6 _ _ h5)) ?_ ?_
    · rintro i y σ H6 hi ⟨o2, rfl, S6⟩
      rw [List.getElem?_map] at hi
      obtain ⟨c, hc, rfl⟩ := Option.map_eq_some_iff.mp hi
      have hv6 := (hv4.same S45).same S6
      refine run_gname ?_
      refine ⟨_, rfl, _, rfl, v, t, n, c, rfl, hv6, g, hz, fun v1 r1 H7 S7 hv1 z1 => ⟨v1, r1, rfl, hv1, by omega, fun H8 S8 => ⟨_, rfl, iteF ?_⟩⟩⟩
      exact ⟨_, rfl, S6.trans (S7.trans S8)⟩
    · rintro σ H6 ⟨o2, rfl, S6⟩
      have hv6 := (hv4.same S45).same S6
      have tV : ∀ σ : St, σ[1]? = some (some v) → Th 100 (tVar 1) σ H6 := fun σ e => th_var e hv6 hz
      dsimp only
      refine go_for (B := 300) (n := 10) (tha_cons (th_lst (ths_cons (tV _ rfl) ths_nil) (by decide)) (tha_cons (th_tup (ths_cons (tV _ rfl) ths_nil) (by decide)) (tha_cons (th_tup (ths_cons th_str (ths_cons (th_lst (ths_cons th_int (ths_cons th_int ths_nil)) (by decide)) ths_nil)) (by decide)) (tha_cons (th_tup (ths_cons th_int (ths_cons th_int ths_nil)) (by decide)) (tha_cons th_non (tha_cons th_str (tha_cons th_int (tha_cons th_bl (tha_cons (th_lst ths_nil (by decide)) (tha_cons th_dic tha_nil (by omega)) (by omega)) (by omega)) (by omega)) (by omega)) (by omega)) (by omega)) (by omega)) (by omega)) (by omega)) (by decide) fun l us H7 S7 h7 l7 all => ?_
      refine for_list (K := K) (a := l) (xs := us) (fun i σ H8 => ∃ (o3 : Option V), σ = [some (.ref a), some v, o2, o3] ∧ Same H7 H8)
        ⟨none, rfl, Same.refl _⟩ (fun i σ H8 _ ⟨_, _, S8⟩ => SqL.of (S8 _ _ h7)) ?_ ?_
      · rintro i y σ H8 hi ⟨o3, rfl, S8⟩
        obtain ⟨hil, ev⟩ := List.getElem?_eq_some_iff.mp hi
        obtain ⟨u, hu, zu⟩ := all y (by rw [← ev]; exact List.getElem_mem hil)
        refine run_gname ?_
        exact ⟨_, rfl, y, u, rfl, hu.same S8, by omega, fun H9 S9 => ⟨_, rfl, iteF ⟨_, rfl, S8.trans S9⟩⟩⟩
      · rintro σ H8 ⟨o3, rfl, S8⟩
        exact ⟨_, rfl, v, t, rfl, (hv6.same S7).same S8, by omega, fun H9 _ => q H9⟩
end
end KU
set_option Elab.async false
set_option linter.all false
set_option maxRecDepth 100000
set_option maxHeartbeats 4000000
namespace KU
open PySem L2 Tre
theorem all_mk {l : PySem.W.OpenLaw} {w : World} {K : PySem.W.Frag} {h : Heap} {mg : Str → Option Value} {fa  f0 f1 f2 f3 f4 f5 f6 f7 f8 f9 f10 f11 f12 f13 f14 f15 f16 f17 f18 f19 f20 f21 C0 C1 C2 C3 C4 C5 C6 C7 C8 C9 : Addr} (X : K.In h) (G : h.Ns mainGlobals mg) (hfa : mg "law" = some (.ref fa)) 
    {od0 od1 od2 od3 od4 od5 od6 od7 od8 od9 od10 od11 od12 od13 od14 od15 od16 od17 od18 od19 od20 od21 an0 an1 an2 an3 an4 an5 an6 an7 an8 an9 an10 an11 an12 an13 an14 an15 an16 an17 an18 an19 an20 an21 : Option Addr} {sl0 sl1 sl2 sl3 sl4 sl5 sl6 sl7 sl8 sl9 sl10 sl11 sl12 sl13 sl14 sl15 sl16 sl17 sl18 sl19 sl20 sl21 : Array (Option Value)} {oc0 kV0 dc0 pm0 cd0 ct0 oc1 kV1 dc1 pm1 cd1 ct1 oc2 kV2 dc2 pm2 cd2 ct2 oc3 kV3 dc3 pm3 cd3 ct3 oc4 kV4 dc4 pm4 cd4 ct4 oc5 kV5 dc5 pm5 cd5 ct5 oc6 kV6 dc6 pm6 cd6 ct6 oc7 kV7 dc7 pm7 cd7 ct7 oc8 kV8 dc8 pm8 cd8 ct8 oc9 kV9 dc9 pm9 cd9 ct9 oc10 kV10 dc10 pm10 cd10 ct10 oc11 kV11 dc11 pm11 cd11 ct11 oc12 kV12 dc12 pm12 cd12 ct12 oc13 kV13 dc13 pm13 cd13 ct13 oc14 kV14 dc14 pm14 cd14 ct14 oc15 kV15 dc15 pm15 cd15 ct15 oc16 kV16 dc16 pm16 cd16 ct16 oc17 kV17 dc17 pm17 cd17 ct17 oc18 kV18 dc18 pm18 cd18 ct18 oc19 kV19 dc19 pm19 cd19 ct19 oc20 kV20 dc20 pm20 cd20 ct20 oc21 kV21 dc21 pm21 cd21 ct21 : Value} {kA : Addr} {odK : Option Addr} {nK : Nat} {slK : Array (Option Value)} {tk1 tk2 : Tok} {t_KIND t_PARTS t_MOST_BOXES : Tok}
    (a0 : PySem.W.nsIn K mainGlobals "is_whole" = some (some (.ref f0)))
    (l0 : K.lookup f0 = some ⟨oc0, od0, .func (PySem.W.fnOf "is_whole" "is_whole" (defArgs sWhole) (defBody sWhole) (defScope sWhole) .none kV0 dc0 pm0 an0 cd0 ct0), sl0⟩)
    (c0 : PySem.W.codeIn K cd0 "is_whole" = true)
    (k0 : PySem.W.keepIn K (.ref f0) = true)
    (a1 : PySem.W.nsIn K mainGlobals "has_kind" = some (some (.ref f1)))
    (l1 : K.lookup f1 = some ⟨oc1, od1, .func (PySem.W.fnOf "has_kind" "has_kind" (defArgs sHas) (defBody sHas) (defScope sHas) .none kV1 dc1 pm1 an1 cd1 ct1), sl1⟩)
    (c1 : PySem.W.codeIn K cd1 "has_kind" = true)
    (k1 : PySem.W.keepIn K (.ref f1) = true)
    (a2 : PySem.W.nsIn K mainGlobals "is_branch" = some (some (.ref f2)))
    (l2 : K.lookup f2 = some ⟨oc2, od2, .func (PySem.W.fnOf "is_branch" "is_branch" (defArgs sBr) (defBody sBr) (defScope sBr) .none kV2 dc2 pm2 an2 cd2 ct2), sl2⟩)
    (c2 : PySem.W.codeIn K cd2 "is_branch" = true)
    (k2 : PySem.W.keepIn K (.ref f2) = true)
    (a3 : PySem.W.nsIn K mainGlobals "numbers_in" = some (some (.ref f3)))
    (l3 : K.lookup f3 = some ⟨oc3, od3, .func (PySem.W.fnOf "numbers_in" "numbers_in" (defArgs sNum) (defBody sNum) (defScope sNum) .none kV3 dc3 pm3 an3 cd3 ct3), sl3⟩)
    (c3 : PySem.W.codeIn K cd3 "numbers_in" = true)
    (k3 : PySem.W.keepIn K (.ref f3) = true)
    (a4 : PySem.W.nsIn K mainGlobals "is_tree" = some (some (.ref f4)))
    (l4 : K.lookup f4 = some ⟨oc4, od4, .func (PySem.W.fnOf "is_tree" "is_tree" (defArgs sTree) (defBody sTree) (defScope sTree) .none kV4 dc4 pm4 an4 cd4 ct4), sl4⟩)
    (c4 : PySem.W.codeIn K cd4 "is_tree" = true)
    (k4 : PySem.W.keepIn K (.ref f4) = true)
    (a5 : PySem.W.nsIn K mainGlobals "refuse_no_tree" = some (some (.ref f5)))
    (l5 : K.lookup f5 = some ⟨oc5, od5, .func (PySem.W.fnOf "refuse_no_tree" "refuse_no_tree" (defArgs sRefT) (defBody sRefT) (defScope sRefT) .none kV5 dc5 pm5 an5 cd5 ct5), sl5⟩)
    (c5 : PySem.W.codeIn K cd5 "refuse_no_tree" = true)
    (k5 : PySem.W.keepIn K (.ref f5) = true)
    (a6 : PySem.W.nsIn K mainGlobals "boxes_of" = some (some (.ref f6)))
    (l6 : K.lookup f6 = some ⟨oc6, od6, .func (PySem.W.fnOf "boxes_of" "boxes_of" (defArgs sBoxes) (defBody sBoxes) (defScope sBoxes) .none kV6 dc6 pm6 an6 cd6 ct6), sl6⟩)
    (c6 : PySem.W.codeIn K cd6 "boxes_of" = true)
    (k6 : PySem.W.keepIn K (.ref f6) = true)
    (a7 : PySem.W.nsIn K mainGlobals "written" = some (some (.ref f7)))
    (l7 : K.lookup f7 = some ⟨oc7, od7, .func (PySem.W.fnOf "written" "written" (defArgs sWrit) (defBody sWrit) (defScope sWrit) .none kV7 dc7 pm7 an7 cd7 ct7), sl7⟩)
    (c7 : PySem.W.codeIn K cd7 "written" = true)
    (k7 : PySem.W.keepIn K (.ref f7) = true)
    (a8 : PySem.W.nsIn K mainGlobals "show_tree" = some (some (.ref f8)))
    (l8 : K.lookup f8 = some ⟨oc8, od8, .func (PySem.W.fnOf "show_tree" "show_tree" (defArgs sShow) (defBody sShow) (defScope sShow) .none kV8 dc8 pm8 an8 cd8 ct8), sl8⟩)
    (c8 : PySem.W.codeIn K cd8 "show_tree" = true)
    (k8 : PySem.W.keepIn K (.ref f8) = true)
    (a9 : PySem.W.nsIn K mainGlobals "_law_cell_at" = some (some (.ref f9)))
    (l9 : K.lookup f9 = some ⟨oc9, od9, .func (PySem.W.fnOf "_law_cell_at" "_law_cell_at" (defArgs sCellAt) (defBody sCellAt) (defScope sCellAt) .none kV9 dc9 pm9 an9 cd9 ct9), sl9⟩)
    (c9 : PySem.W.codeIn K cd9 "_law_cell_at" = true)
    (k9 : PySem.W.keepIn K (.ref f9) = true)
    (a10 : PySem.W.nsIn K mainGlobals "_law_whole" = some (some (.ref f10)))
    (l10 : K.lookup f10 = some ⟨oc10, od10, .func (PySem.W.fnOf "_law_whole" "_law_whole" (defArgs sLwh) (defBody sLwh) (defScope sLwh) .none kV10 dc10 pm10 an10 cd10 ct10), sl10⟩)
    (c10 : PySem.W.codeIn K cd10 "_law_whole" = true)
    (k10 : PySem.W.keepIn K (.ref f10) = true)
    (a11 : PySem.W.nsIn K mainGlobals "_law_join" = some (some (.ref f11)))
    (l11 : K.lookup f11 = some ⟨oc11, od11, .func (PySem.W.fnOf "_law_join" "_law_join" (defArgs sJoin) (defBody sJoin) (defScope sJoin) .none kV11 dc11 pm11 an11 cd11 ct11), sl11⟩)
    (c11 : PySem.W.codeIn K cd11 "_law_join" = true)
    (k11 : PySem.W.keepIn K (.ref f11) = true)
    (a12 : PySem.W.nsIn K mainGlobals "_law_tree" = some (some (.ref f12)))
    (l12 : K.lookup f12 = some ⟨oc12, od12, .func (PySem.W.fnOf "_law_tree" "_law_tree" (defArgs sLtree) (defBody sLtree) (defScope sLtree) .none kV12 dc12 pm12 an12 cd12 ct12), sl12⟩)
    (c12 : PySem.W.codeIn K cd12 "_law_tree" = true)
    (k12 : PySem.W.keepIn K (.ref f12) = true)
    (a13 : PySem.W.nsIn K mainGlobals "_law_is" = some (some (.ref f13)))
    (l13 : K.lookup f13 = some ⟨oc13, od13, .func (PySem.W.fnOf "_law_is" "_law_is" (defArgs sIs) (defBody sIs) (defScope sIs) .none kV13 dc13 pm13 an13 cd13 ct13), sl13⟩)
    (c13 : PySem.W.codeIn K cd13 "_law_is" = true)
    (k13 : PySem.W.keepIn K (.ref f13) = true)
    (a14 : PySem.W.nsIn K mainGlobals "_law_knots" = some (some (.ref f14)))
    (l14 : K.lookup f14 = some ⟨oc14, od14, .func (PySem.W.fnOf "_law_knots" "_law_knots" (defArgs sKnots) (defBody sKnots) (defScope sKnots) .none kV14 dc14 pm14 an14 cd14 ct14), sl14⟩)
    (c14 : PySem.W.codeIn K cd14 "_law_knots" = true)
    (k14 : PySem.W.keepIn K (.ref f14) = true)
    (a15 : PySem.W.nsIn K mainGlobals "_law_put" = some (some (.ref f15)))
    (l15 : K.lookup f15 = some ⟨oc15, od15, .func (PySem.W.fnOf "_law_put" "_law_put" (defArgs sPut) (defBody sPut) (defScope sPut) .none kV15 dc15 pm15 an15 cd15 ct15), sl15⟩)
    (c15 : PySem.W.codeIn K cd15 "_law_put" = true)
    (k15 : PySem.W.keepIn K (.ref f15) = true)
    (a16 : PySem.W.nsIn K mainGlobals "_law_other" = some (some (.ref f16)))
    (l16 : K.lookup f16 = some ⟨oc16, od16, .func (PySem.W.fnOf "_law_other" "_law_other" (defArgs sOther) (defBody sOther) (defScope sOther) .none kV16 dc16 pm16 an16 cd16 ct16), sl16⟩)
    (c16 : PySem.W.codeIn K cd16 "_law_other" = true)
    (k16 : PySem.W.keepIn K (.ref f16) = true)
    (a17 : PySem.W.nsIn K mainGlobals "_law_wrong" = some (some (.ref f17)))
    (l17 : K.lookup f17 = some ⟨oc17, od17, .func (PySem.W.fnOf "_law_wrong" "_law_wrong" (defArgs sWrong) (defBody sWrong) (defScope sWrong) .none kV17 dc17 pm17 an17 cd17 ct17), sl17⟩)
    (c17 : PySem.W.codeIn K cd17 "_law_wrong" = true)
    (k17 : PySem.W.keepIn K (.ref f17) = true)
    (a18 : PySem.W.nsIn K mainGlobals "_law_count" = some (some (.ref f18)))
    (l18 : K.lookup f18 = some ⟨oc18, od18, .func (PySem.W.fnOf "_law_count" "_law_count" (defArgs sCount) (defBody sCount) (defScope sCount) .none kV18 dc18 pm18 an18 cd18 ct18), sl18⟩)
    (c18 : PySem.W.codeIn K cd18 "_law_count" = true)
    (k18 : PySem.W.keepIn K (.ref f18) = true)
    (a19 : PySem.W.nsIn K mainGlobals "_law_refused" = some (some (.ref f19)))
    (l19 : K.lookup f19 = some ⟨oc19, od19, .func (PySem.W.fnOf "_law_refused" "_law_refused" (defArgs sRef) (defBody sRef) (defScope sRef) .none kV19 dc19 pm19 an19 cd19 ct19), sl19⟩)
    (c19 : PySem.W.codeIn K cd19 "_law_refused" = true)
    (k19 : PySem.W.keepIn K (.ref f19) = true)
    (a20 : PySem.W.nsIn K mainGlobals "_law_asked" = some (some (.ref f20)))
    (l20 : K.lookup f20 = some ⟨oc20, od20, .func (PySem.W.fnOf "_law_asked" "_law_asked" (defArgs sAsked) (defBody sAsked) (defScope sAsked) .none kV20 dc20 pm20 an20 cd20 ct20), sl20⟩)
    (c20 : PySem.W.codeIn K cd20 "_law_asked" = true)
    (k20 : PySem.W.keepIn K (.ref f20) = true)
    (a21 : PySem.W.nsIn K mainGlobals "law" = some (some (.ref f21)))
    (l21 : K.lookup f21 = some ⟨oc21, od21, .func (PySem.W.fnOf "law" "law" (defArgs sLaw) (defBody sLaw) (defScope sLaw) .none kV21 dc21 pm21 an21 cd21 ct21), sl21⟩)
    (c21 : PySem.W.codeIn K cd21 "law" = true)
    (k21 : PySem.W.keepIn K (.ref f21) = true)
    (C0m : PySem.W.nsIn K mainGlobals "PartError" = some (some (.ref C0)))
    (C1m : PySem.W.nsIn K mainGlobals "NoPage" = some (some (.ref C1)))
    (C2m : PySem.W.nsIn K mainGlobals "NoPicture" = some (some (.ref C2)))
    (C3m : PySem.W.nsIn K mainGlobals "NoPlace" = some (some (.ref C3)))
    (C4m : PySem.W.nsIn K mainGlobals "NoTree" = some (some (.ref C4)))
    (C5m : PySem.W.nsIn K mainGlobals "NoNeeds" = some (some (.ref C5)))
    (C6m : PySem.W.nsIn K mainGlobals "NoTexts" = some (some (.ref C6)))
    (C7m : PySem.W.nsIn K mainGlobals "NoRoom" = some (some (.ref C7)))
    (C8m : PySem.W.nsIn K mainGlobals "NoRow" = some (some (.ref C8)))
    (C9m : PySem.W.nsIn K mainGlobals "NoNumber" = some (some (.ref C9)))
    (z_len : PySem.W.nsIn K mainGlobals "len" = some none)
    (z_range : PySem.W.nsIn K mainGlobals "range" = some none)
    (z_isinstance : PySem.W.nsIn K mainGlobals "isinstance" = some none)
    (z_int : PySem.W.nsIn K mainGlobals "int" = some none)
    (z_bool : PySem.W.nsIn K mainGlobals "bool" = some none)
    (z_str : PySem.W.nsIn K mainGlobals "str" = some none)
    (z_tuple : PySem.W.nsIn K mainGlobals "tuple" = some none)
    (z_list : PySem.W.nsIn K mainGlobals "list" = some none)
    (z_any : PySem.W.nsIn K mainGlobals "any" = some none)
    (z_sorted : PySem.W.nsIn K mainGlobals "sorted" = some none)
    (z_reversed : PySem.W.nsIn K mainGlobals "reversed" = some none)
    (z_ValueError : PySem.W.nsIn K mainGlobals "ValueError" = some none)
    (g_KIND : PySem.W.nsIn K mainGlobals "KIND" = some (some (.int 0 t_KIND)))
    (g_PARTS : PySem.W.nsIn K mainGlobals "PARTS" = some (some (.int 1 t_PARTS)))
    (g_MOST_BOXES : PySem.W.nsIn K mainGlobals "MOST_BOXES" = some (some (.int 24 t_MOST_BOXES)))
    (ex4 : PySem.W.excIn K C4 [.type "ValueError", .type "Exception", .type "BaseException", .type "object"] "ValueError.__new__" = true)
    (e0a : PySem.W.findIn K (.ref C0) "__getattribute__" = some (some (.builtin "BaseException.__getattribute__")))
    (e0b : PySem.W.findIn K (.ref C0) "__getattr__" = some none)
    (e0c : PySem.W.findIn K (.ref C0) "__class__" = some (some (.builtin "object.__class__")))
    (e0f : PySem.W.mroIn K C0 (.type "object") = some true)
    (e0g : PySem.W.mroIn K C0 (.type "BaseException") = some true)
    (e0h : PySem.W.typeIn K (.ref C0) = some (.type "type"))
    (e0i : (PySem.W.clsIn K C0).isSome = true)
    (e4a : PySem.W.findIn K (.ref C4) "__getattribute__" = some (some (.builtin "BaseException.__getattribute__")))
    (e4b : PySem.W.findIn K (.ref C4) "__getattr__" = some none)
    (e4c : PySem.W.findIn K (.ref C4) "__class__" = some (some (.builtin "object.__class__")))
    (e4f : PySem.W.mroIn K C4 (.type "object") = some true)
    (e4g : PySem.W.mroIn K C4 (.type "BaseException") = some true)
    (e4h : PySem.W.typeIn K (.ref C4) = some (.type "type"))
    (e4i : (PySem.W.clsIn K C4).isSome = true)
    (ed : PySem.W.specialIn K (.builtin "object.__class__") "__get__" = some (some (.builtin "getset_descriptor.__get__")))
    (ee : PySem.W.takesIn K (.builtin "object.__class__") = some true)
    (hKINDS : PySem.W.nsIn K mainGlobals "KINDS" = some (some (.ref kA)))
    (lkK : K.lookup kA = some ⟨.type "tuple", odK, .seq #[.str "|" tk1, .str "-" tk2] nK, slK⟩)
    (up : PySem.W.mroIn K C4 (.ref C0) = some true)
    (q3 : PySem.W.kitOne K (.ref C4) (.ref C4) = some true)
    (qv : PySem.W.kitOne K (.ref C4) (.type "ValueError") = some true)
    (qA : PySem.W.kitAny K (.ref C4) [.ref C5, .ref C9, .ref C1, .ref C2, .ref C3, .ref C7, .ref C8, .ref C6] = some false)
    (q_int0 : PySem.W.kitOne K (.type "NoneType") (.type "int") = some false)
    (q_int1 : PySem.W.kitOne K (.type "bool") (.type "int") = some true)
    (q_int2 : PySem.W.kitOne K (.type "int") (.type "int") = some true)
    (q_int3 : PySem.W.kitOne K (.type "str") (.type "int") = some false)
    (q_int4 : PySem.W.kitOne K (.type "tuple") (.type "int") = some false)
    (q_int5 : PySem.W.kitOne K (.type "list") (.type "int") = some false)
    (q_int6 : PySem.W.kitOne K (.type "dict") (.type "int") = some false)
    (q_bool0 : PySem.W.kitOne K (.type "NoneType") (.type "bool") = some false)
    (q_bool1 : PySem.W.kitOne K (.type "bool") (.type "bool") = some true)
    (q_bool2 : PySem.W.kitOne K (.type "int") (.type "bool") = some false)
    (q_bool3 : PySem.W.kitOne K (.type "str") (.type "bool") = some false)
    (q_bool4 : PySem.W.kitOne K (.type "tuple") (.type "bool") = some false)
    (q_bool5 : PySem.W.kitOne K (.type "list") (.type "bool") = some false)
    (q_bool6 : PySem.W.kitOne K (.type "dict") (.type "bool") = some false)
    (q_str0 : PySem.W.kitOne K (.type "NoneType") (.type "str") = some false)
    (q_str1 : PySem.W.kitOne K (.type "bool") (.type "str") = some false)
    (q_str2 : PySem.W.kitOne K (.type "int") (.type "str") = some false)
    (q_str3 : PySem.W.kitOne K (.type "str") (.type "str") = some true)
    (q_str4 : PySem.W.kitOne K (.type "tuple") (.type "str") = some false)
    (q_str5 : PySem.W.kitOne K (.type "list") (.type "str") = some false)
    (q_str6 : PySem.W.kitOne K (.type "dict") (.type "str") = some false)
    (q_tuple0 : PySem.W.kitOne K (.type "NoneType") (.type "tuple") = some false)
    (q_tuple1 : PySem.W.kitOne K (.type "bool") (.type "tuple") = some false)
    (q_tuple2 : PySem.W.kitOne K (.type "int") (.type "tuple") = some false)
    (q_tuple3 : PySem.W.kitOne K (.type "str") (.type "tuple") = some false)
    (q_tuple4 : PySem.W.kitOne K (.type "tuple") (.type "tuple") = some true)
    (q_tuple5 : PySem.W.kitOne K (.type "list") (.type "tuple") = some false)
    (q_tuple6 : PySem.W.kitOne K (.type "dict") (.type "tuple") = some false) :
    ∃ fd : FuncData, (∀ (s : Shared) (v : Value), BindsTo s fd ⟨[v], []⟩ [("script", v)]) ∧ ∀ base : Heap, K.In base → base.Ns mainGlobals mg → FnOk l.prog w K mg base CX0 29 fa fd ["script"] (spLaw K) := by
  have e := hfa.symm.trans (PySem.W.mg_of X G a21)
  cases e
  have F0 := fun_mk (st := sWhole) l0 c0 k0
  have F1 := fun_mk (st := sHas) l1 c1 k1
  have F2 := fun_mk (st := sBr) l2 c2 k2
  have F3 := fun_mk (st := sNum) l3 c3 k3
  have F4 := fun_mk (st := sTree) l4 c4 k4
  have F5 := fun_mk (st := sRefT) l5 c5 k5
  have F6 := fun_mk (st := sBoxes) l6 c6 k6
  have F7 := fun_mk (st := sWrit) l7 c7 k7
  have F8 := fun_mk (st := sShow) l8 c8 k8
  have F9 := fun_mk (st := sCellAt) l9 c9 k9
  have F10 := fun_mk (st := sLwh) l10 c10 k10
  have F11 := fun_mk (st := sJoin) l11 c11 k11
  have F12 := fun_mk (st := sLtree) l12 c12 k12
  have F13 := fun_mk (st := sIs) l13 c13 k13
  have F14 := fun_mk (st := sKnots) l14 c14 k14
  have F15 := fun_mk (st := sPut) l15 c15 k15
  have F16 := fun_mk (st := sOther) l16 c16 k16
  have F17 := fun_mk (st := sWrong) l17 c17 k17
  have F18 := fun_mk (st := sCount) l18 c18 k18
  have F19 := fun_mk (st := sRef) l19 c19 k19
  have F20 := fun_mk (st := sAsked) l20 c20 k20
  have F21 := fun_mk (st := sLaw) l21 c21 k21
  have xc0 : ExcCls K C0 := ⟨e0a, e0b, e0c, ed, ee, e0f, e0g, e0h, e0i⟩
  have xc4 : ExcCls K C4 := ⟨e4a, e4b, e4c, ed, ee, e4f, e4g, e4h, e4i⟩
  have Z : Nm K mg kA := ⟨⟨_, PySem.W.mg_of X G g_KIND⟩, ⟨_, PySem.W.mg_of X G g_PARTS⟩, ⟨_, PySem.W.mg_of X G g_MOST_BOXES⟩, PySem.W.mg_of X G hKINDS, fun H => .inr ⟨_, _, _, lkK, rfl, rfl, (show 2 ≤ sizeLine by decide), .cons ⟨_, rfl⟩ (.cons ⟨_, rfl⟩ .nil)⟩, (PySem.W.mg_none_of X G z_isinstance), (PySem.W.mg_none_of X G z_int), (PySem.W.mg_none_of X G z_bool), (PySem.W.mg_none_of X G z_str), (PySem.W.mg_none_of X G z_tuple), (PySem.W.mg_none_of X G z_list), (PySem.W.mg_none_of X G z_len), (PySem.W.mg_none_of X G z_any), (PySem.W.mg_none_of X G z_sorted), (PySem.W.mg_none_of X G z_range), (fun t => by cases t; exact q_int0; exact q_int1; exact q_int2; exact q_int3; exact q_int4; exact q_int5; exact q_int6), (fun t => by cases t; exact q_bool0; exact q_bool1; exact q_bool2; exact q_bool3; exact q_bool4; exact q_bool5; exact q_bool6), (fun t => by cases t; exact q_str0; exact q_str1; exact q_str2; exact q_str3; exact q_str4; exact q_str5; exact q_str6), (fun t => by cases t; exact q_tuple0; exact q_tuple1; exact q_tuple2; exact q_tuple3; exact q_tuple4; exact q_tuple5; exact q_tuple6)⟩
  have ZK : Kinds K mg C0 C1 C2 C3 C4 C5 C6 C7 C8 C9 := ⟨PySem.W.mg_of X G C0m, PySem.W.mg_of X G C1m, PySem.W.mg_of X G C2m, PySem.W.mg_of X G C3m, PySem.W.mg_of X G C4m, PySem.W.mg_of X G C5m, PySem.W.mg_of X G C6m, PySem.W.mg_of X G C7m, PySem.W.mg_of X G C8m, PySem.W.mg_of X G C9m, (PySem.W.mg_none_of X G z_ValueError), xc0, xc4, up, q3, qv, qA⟩
  refine ⟨PySem.W.fnOf "law" "law" (defArgs sLaw) (defBody sLaw) (defScope sLaw) .none kV21 dc21 pm21 an21 cd21 ct21, fun s v => .of_eq rfl, fun base B _ => ?_⟩
  have Y0 : Callee l.prog w K mg base CX0 1 "is_whole" f0 _ ["thing"] spWhole := ⟨ok_whole F0 Z, PySem.W.mg_of X G a0, k0, F0.binds fun _ _ _ _ _ _ us hl => match us, hl with | [_], _ => rfl⟩
  have Y1 : Callee l.prog w K mg base CX0 1 "has_kind" f1 _ ["thing"] spHas := ⟨ok_has F1 Z, PySem.W.mg_of X G a1, k1, F1.binds fun _ _ _ _ _ _ us hl => match us, hl with | [_], _ => rfl⟩
  have Y2 : Callee l.prog w K mg base CX0 2 "is_branch" f2 _ ["thing"] spBr := ⟨ok_br F2 Z Y1, PySem.W.mg_of X G a2, k2, F2.binds fun _ _ _ _ _ _ us hl => match us, hl with | [_], _ => rfl⟩
  have Y3 : Callee l.prog w K mg base CX0 4 "numbers_in" f3 _ ["thing"] spNum := ⟨ok_num F3 Z Y0 Y2, PySem.W.mg_of X G a3, k3, F3.binds fun _ _ _ _ _ _ us hl => match us, hl with | [_], _ => rfl⟩
  have Y4 : Callee l.prog w K mg base CX0 5 "is_tree" f4 _ ["thing"] spTree := ⟨ok_tree F4 Z Y3, PySem.W.mg_of X G a4, k4, F4.binds fun _ _ _ _ _ _ us hl => match us, hl with | [_], _ => rfl⟩
  have Y5 : Callee l.prog w K mg base (CXE l.prog w) 6 "refuse_no_tree" f5 _ ["thing"] (spRefT C4) := ⟨ok_refT F5 ⟨PySem.W.mg_of X G C4m, ex4⟩ Y4, PySem.W.mg_of X G a5, k5, F5.binds fun _ _ _ _ _ _ us hl => match us, hl with | [_], _ => rfl⟩
  have Y6 : Callee l.prog w K mg base (CXE l.prog w) 7 "boxes_of" f6 _ ["tree"] (spBoxes C4) := ⟨ok_boxes F6 (PySem.W.mg_none_of X G z_len) Y5 Y3, PySem.W.mg_of X G a6, k6, F6.binds fun _ _ _ _ _ _ us hl => match us, hl with | [_], _ => rfl⟩
  have Y7 : Callee l.prog w K mg base CX0 25 "written" f7 _ ["tree"] (spWr 24) := ⟨ok_writ F7 Z Y0 (PySem.W.mg_of X G a7) k7 (F7.binds fun _ _ _ _ _ _ us hl => match us, hl with | [_], _ => rfl) 24, PySem.W.mg_of X G a7, k7, F7.binds fun _ _ _ _ _ _ us hl => match us, hl with | [_], _ => rfl⟩
  have Y8 : Callee l.prog w K mg base (CXE l.prog w) 26 "show_tree" f8 _ ["tree"] (spShow C4) := ⟨ok_show F8 Y5 Y7, PySem.W.mg_of X G a8, k8, F8.binds fun _ _ _ _ _ _ us hl => match us, hl with | [_], _ => rfl⟩
  have Y9 : Callee l.prog w K mg base CX0 1 "_law_cell_at" f9 _ ["script", "k"] (spCellAt K) := ⟨ok_cellAt F9 (PySem.W.mg_none_of X G z_len), PySem.W.mg_of X G a9, k9, F9.binds fun _ _ _ _ _ _ us hl => match us, hl with | [_, _], _ => rfl⟩
  have Y10 : Callee l.prog w K mg base CX0 1 "_law_whole" f10 _ ["found"] spWhole := ⟨ok_lwh F10 Z, PySem.W.mg_of X G a10, k10, F10.binds fun _ _ _ _ _ _ us hl => match us, hl with | [_], _ => rfl⟩
  have Y11 : Callee l.prog w K mg base CX0 1 "_law_join" f11 _ ["kind", "one", "other"] spJoin := ⟨ok_join F11 Z, PySem.W.mg_of X G a11, k11, F11.binds fun _ _ _ _ _ _ us hl => match us, hl with | [_, _, _], _ => rfl⟩
  have Y12 : Callee l.prog w K mg base CX0 2 "_law_tree" f12 _ ["cells"] spLtree := ⟨ok_ltree F12 Z Y11, PySem.W.mg_of X G a12, k12, F12.binds fun _ _ _ _ _ _ us hl => match us, hl with | [_], _ => rfl⟩
  have Y13 : Callee l.prog w K mg base CX0 2 "_law_is" f13 _ ["thing"] spIs := ⟨ok_is F13 Z Y10, PySem.W.mg_of X G a13, k13, F13.binds fun _ _ _ _ _ _ us hl => match us, hl with | [_], _ => rfl⟩
  have Y14 : Callee l.prog w K mg base CX0 1 "_law_knots" f14 _ ["tree"] spKnots := ⟨ok_knots F14 Z, PySem.W.mg_of X G a14, k14, F14.binds fun _ _ _ _ _ _ us hl => match us, hl with | [_], _ => rfl⟩
  have Y15 : Callee l.prog w K mg base CX0 1 "_law_put" f15 _ ["tree", "way", "new"] spPut := ⟨ok_put F15 (PySem.W.mg_none_of X G z_reversed), PySem.W.mg_of X G a15, k15, F15.binds fun _ _ _ _ _ _ us hl => match us, hl with | [_, _, _], _ => rfl⟩
  have Y16 : Callee l.prog w K mg base CX0 1 "_law_other" f16 _ ["here", "many", "cell"] spOther := ⟨ok_other F16 Z, PySem.W.mg_of X G a16, k16, F16.binds fun _ _ _ _ _ _ us hl => match us, hl with | [_, _, _], _ => rfl⟩
  have Y17 : Callee l.prog w K mg base CX0 2 "_law_wrong" f17 _ ["tree", "cell"] spWrong := ⟨ok_wrong F17 (PySem.W.mg_none_of X G z_len) Y14 Y15 Y16, PySem.W.mg_of X G a17, k17, F17.binds fun _ _ _ _ _ _ us hl => match us, hl with | [_, _], _ => rfl⟩
  have Y18 : Callee l.prog w K mg base CX0 2 "_law_count" f18 _ ["tree"] spCount := ⟨ok_count F18 (PySem.W.mg_none_of X G z_len) Y14 Y10, PySem.W.mg_of X G a18, k18, F18.binds fun _ _ _ _ _ _ us hl => match us, hl with | [_], _ => rfl⟩
  have Y19 : Callee l.prog w K mg base CX0 27 "_law_refused" f19 _ ["thing", "way"] spRefused := ⟨ok_refused F19 (PySem.W.mg_none_of X G z_isinstance) ZK Y6 Y8, PySem.W.mg_of X G a19, k19, F19.binds fun _ _ _ _ _ _ us hl => match us, hl with | [_, _], _ => rfl⟩
  have Y20 : Callee l.prog w K mg base CX0 28 "_law_asked" f20 _ ["thing"] spAsked := ⟨ok_asked F20 Z Y13 Y19 Y6 Y8 Y10 Y18, PySem.W.mg_of X G a20, k20, F20.binds fun _ _ _ _ _ _ us hl => match us, hl with | [_], _ => rfl⟩
  exact ok_law F21 (PySem.W.mg_none_of X G z_len) Y12 Y6 Y9 Y20 Y17
end KU
open PySem PySem.W PyProof.Rows
set_option maxRecDepth 100000 in
set_option maxHeartbeats 0 in
theorem PySem.Challenge.cw_pagepart_k33_boxes_counted_holds : PySem.Challenge.rw_pagepart_k33_boxes_counted.Holds := by
  w_on; o_law; k_head; (case hw => w_witness2)
  k_fill
  refine L2.walk_ofK (l := PySem.Challenge.rw_pagepart_k33_boxes_counted) (n := 63) (k := 29) (x := "script") (CX := L2.CX0) (sp := fun K => KU.spLaw K) rfl (by decide) rfl ⟨rfl, by decide, by decide⟩ (fun w h Y => PySem.W.kIn_of Y) ?F (fun K H a ns hl hO hS => ⟨a, ns, rfl, hS, hl, fun _ => rfl⟩) fun _ _ _ _ z => z
  case F =>
    intro w mg fa h KX G hmg 
    refine' KU.all_mk KX G hmg  ?a0 ?l0 ?c0 ?k0 ?a1 ?l1 ?c1 ?k1 ?a2 ?l2 ?c2 ?k2 ?a3 ?l3 ?c3 ?k3 ?a4 ?l4 ?c4 ?k4 ?a5 ?l5 ?c5 ?k5 ?a6 ?l6 ?c6 ?k6 ?a7 ?l7 ?c7 ?k7 ?a8 ?l8 ?c8 ?k8 ?a9 ?l9 ?c9 ?k9 ?a10 ?l10 ?c10 ?k10 ?a11 ?l11 ?c11 ?k11 ?a12 ?l12 ?c12 ?k12 ?a13 ?l13 ?c13 ?k13 ?a14 ?l14 ?c14 ?k14 ?a15 ?l15 ?c15 ?k15 ?a16 ?l16 ?c16 ?k16 ?a17 ?l17 ?c17 ?k17 ?a18 ?l18 ?c18 ?k18 ?a19 ?l19 ?c19 ?k19 ?a20 ?l20 ?c20 ?k20 ?a21 ?l21 ?c21 ?k21 ?C0m ?C1m ?C2m ?C3m ?C4m ?C5m ?C6m ?C7m ?C8m ?C9m ?z_len ?z_range ?z_isinstance ?z_int ?z_bool ?z_str ?z_tuple ?z_list ?z_any ?z_sorted ?z_reversed ?z_ValueError ?g_KIND ?g_PARTS ?g_MOST_BOXES ?ex4 ?e0a ?e0b ?e0c ?e0f ?e0g ?e0h ?e0i ?e4a ?e4b ?e4c ?e4f ?e4g ?e4h ?e4i ?ed ?ee ?hKINDS ?lkK ?up ?q3 ?qv ?qA ?q_int0 ?q_int1 ?q_int2 ?q_int3 ?q_int4 ?q_int5 ?q_int6 ?q_bool0 ?q_bool1 ?q_bool2 ?q_bool3 ?q_bool4 ?q_bool5 ?q_bool6 ?q_str0 ?q_str1 ?q_str2 ?q_str3 ?q_str4 ?q_str5 ?q_str6 ?q_tuple0 ?q_tuple1 ?q_tuple2 ?q_tuple3 ?q_tuple4 ?q_tuple5 ?q_tuple6
    (case a0 => k_is)
    (case l0 => k_is)
    (case c0 => k_is)
    (case k0 => k_is)
    (case a1 => k_is)
    (case l1 => k_is)
    (case c1 => k_is)
    (case k1 => k_is)
    (case a2 => k_is)
    (case l2 => k_is)
    (case c2 => k_is)
    (case k2 => k_is)
    (case a3 => k_is)
    (case l3 => k_is)
    (case c3 => k_is)
    (case k3 => k_is)
    (case a4 => k_is)
    (case l4 => k_is)
    (case c4 => k_is)
    (case k4 => k_is)
    (case a5 => k_is)
    (case l5 => k_is)
    (case c5 => k_is)
    (case k5 => k_is)
    (case a6 => k_is)
    (case l6 => k_is)
    (case c6 => k_is)
    (case k6 => k_is)
    (case a7 => k_is)
    (case l7 => k_is)
    (case c7 => k_is)
    (case k7 => k_is)
    (case a8 => k_is)
    (case l8 => k_is)
    (case c8 => k_is)
    (case k8 => k_is)
    (case a9 => k_is)
    (case l9 => k_is)
    (case c9 => k_is)
    (case k9 => k_is)
    (case a10 => k_is)
    (case l10 => k_is)
    (case c10 => k_is)
    (case k10 => k_is)
    (case a11 => k_is)
    (case l11 => k_is)
    (case c11 => k_is)
    (case k11 => k_is)
    (case a12 => k_is)
    (case l12 => k_is)
    (case c12 => k_is)
    (case k12 => k_is)
    (case a13 => k_is)
    (case l13 => k_is)
    (case c13 => k_is)
    (case k13 => k_is)
    (case a14 => k_is)
    (case l14 => k_is)
    (case c14 => k_is)
    (case k14 => k_is)
    (case a15 => k_is)
    (case l15 => k_is)
    (case c15 => k_is)
    (case k15 => k_is)
    (case a16 => k_is)
    (case l16 => k_is)
    (case c16 => k_is)
    (case k16 => k_is)
    (case a17 => k_is)
    (case l17 => k_is)
    (case c17 => k_is)
    (case k17 => k_is)
    (case a18 => k_is)
    (case l18 => k_is)
    (case c18 => k_is)
    (case k18 => k_is)
    (case a19 => k_is)
    (case l19 => k_is)
    (case c19 => k_is)
    (case k19 => k_is)
    (case a20 => k_is)
    (case l20 => k_is)
    (case c20 => k_is)
    (case k20 => k_is)
    (case a21 => k_is)
    (case l21 => k_is)
    (case c21 => k_is)
    (case k21 => k_is)
    (case C0m => k_is)
    (case C1m => k_is)
    (case C2m => k_is)
    (case C3m => k_is)
    (case C4m => k_is)
    (case C5m => k_is)
    (case C6m => k_is)
    (case C7m => k_is)
    (case C8m => k_is)
    (case C9m => k_is)
    (case z_len => k_is)
    (case z_range => k_is)
    (case z_isinstance => k_is)
    (case z_int => k_is)
    (case z_bool => k_is)
    (case z_str => k_is)
    (case z_tuple => k_is)
    (case z_list => k_is)
    (case z_any => k_is)
    (case z_sorted => k_is)
    (case z_reversed => k_is)
    (case z_ValueError => k_is)
    (case g_KIND => k_is)
    (case g_PARTS => k_is)
    (case g_MOST_BOXES => k_is)
    (case ex4 => kernel_rfl)
    (case e0a => k_is)
    (case e0b => k_is)
    (case e0c => k_is)
    (case e0f => k_is)
    (case e0g => k_is)
    (case e0h => k_is)
    (case e0i => kernel_rfl)
    (case e4a => k_is)
    (case e4b => k_is)
    (case e4c => k_is)
    (case e4f => k_is)
    (case e4g => k_is)
    (case e4h => k_is)
    (case e4i => kernel_rfl)
    (case ed => k_is)
    (case ee => k_is)
    (case hKINDS => k_is)
    (case lkK => k_is)
    (case up => k_is)
    (case q3 => kernel_rfl)
    (case qv => kernel_rfl)
    (case qA => kernel_rfl)
    (case q_int0 => kernel_rfl)
    (case q_int1 => kernel_rfl)
    (case q_int2 => kernel_rfl)
    (case q_int3 => kernel_rfl)
    (case q_int4 => kernel_rfl)
    (case q_int5 => kernel_rfl)
    (case q_int6 => kernel_rfl)
    (case q_bool0 => kernel_rfl)
    (case q_bool1 => kernel_rfl)
    (case q_bool2 => kernel_rfl)
    (case q_bool3 => kernel_rfl)
    (case q_bool4 => kernel_rfl)
    (case q_bool5 => kernel_rfl)
    (case q_bool6 => kernel_rfl)
    (case q_str0 => kernel_rfl)
    (case q_str1 => kernel_rfl)
    (case q_str2 => kernel_rfl)
    (case q_str3 => kernel_rfl)
    (case q_str4 => kernel_rfl)
    (case q_str5 => kernel_rfl)
    (case q_str6 => kernel_rfl)
    (case q_tuple0 => kernel_rfl)
    (case q_tuple1 => kernel_rfl)
    (case q_tuple2 => kernel_rfl)
    (case q_tuple3 => kernel_rfl)
    (case q_tuple4 => kernel_rfl)
    (case q_tuple5 => kernel_rfl)
    (case q_tuple6 => kernel_rfl)
#print axioms PySem.Challenge.cw_pagepart_k33_boxes_counted_holds
