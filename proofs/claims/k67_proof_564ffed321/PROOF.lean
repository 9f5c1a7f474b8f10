import PyProof.Rows.All
import Wide.All
import OpenK.AllK
import Wide.FinOn
import Lean
import PyProof.EqAt
import PyProof.EqKinds
import PyProof.TupleCall
import PyProof.Draws
import PyProof.EnumMake
import PyProof.TupleIter
import PyProof.WalksMore
import PyProof.MinMaxWalk
import PyProof.SeqI3
import KE.KSortTup
import KE.KLam
import KE.KIsAll
import PyProof.Rows.CallKwBuiltin
import PyProof.SumWalk
import PyProof.CompFree
import PyProof.CompUse
import PyProof.ConsumeWalk
import PyProof.NeKinds
import PyProof.Rows.StrJoin2
import PyProof.Rows.SortShell
import PyProof.StrBlock2
import PyProof.StrWalks
import PyProof.FString5
import PyProof.ZipIter
import PyProof.Rows.StrSplitAre
import PyProof.StrLawsTight
import PyProof.StrBlock
import PyProof.SliceStr2
import PyProof.SumWalkG
import PySem.Challenge.RW_pagepart_k67_words_read
set_option Elab.async false
set_option linter.all false
set_option maxRecDepth 100000
namespace L2
open PySem PySem.Spec PyProof.Rows
abbrev Key := Sum Int Str
def keyIs : Key → Value → Bool
  | .inl k, v => Value.isInt k v
  | .inr x, v => Value.isStrOf x v
def keyH (w : World) : Key → Int
  | .inl k => hashInt k
  | .inr x => hashStr w x
theorem keyIs_shape : ∀ {k : Key} {v : Value}, keyIs k v = true → (∃ i t, k = Sum.inl i ∧ v = Value.int i t) ∨ (∃ x t, k = Sum.inr x ∧ v = Value.str x t)
  | .inl i, v, h => by
    obtain ⟨t, e⟩ := Value.isInt_shape (k := i) (v := v) h
    exact .inl ⟨i, t, rfl, e⟩
  | .inr x, v, h => by
    obtain ⟨t, e⟩ := Value.isStrOf_shape (x := x) (v := v) h
    exact .inr ⟨x, t, rfl, e⟩
theorem key_ll (a b : Int) : decide ((Sum.inl a : Key) = Sum.inl b) = (a == b) := by
  by_cases e : a = b
  · subst e; simp
  · have h : ¬ (Sum.inl a : Key) = Sum.inl b := fun q => e (Sum.inl.inj q)
    rw [decide_eq_false h]
    exact (beq_eq_false_iff_ne.mpr e).symm
theorem key_rr (a b : Str) : decide ((Sum.inr a : Key) = Sum.inr b) = decide (a = b) := by
  by_cases e : a = b
  · subst e; simp
  · have h : ¬ (Sum.inr a : Key) = Sum.inr b := fun q => e (Sum.inr.inj q)
    rw [decide_eq_false h, decide_eq_false e]
theorem key_lr (a : Int) (b : Str) : decide ((Sum.inl a : Key) = Sum.inr b) = false := decide_eq_false (fun q => nomatch q)
theorem key_rl (a : Str) (b : Int) : decide ((Sum.inr a : Key) = Sum.inl b) = false := decide_eq_false (fun q => nomatch q)
def mixKind (prog : Program) (w : World) : PySem.KeyKind prog w Key where
  is := keyIs
  hash := keyH w
  inj := fun v a b ha hb => by
    rcases keyIs_shape ha with ⟨i, t, rfl, rfl⟩ | ⟨x, t, rfl, rfl⟩
    · rcases keyIs_shape hb with ⟨j, u, rfl, e⟩ | ⟨y, u, rfl, e⟩
      · injection e with e1 _; rw [e1]
      · exact nomatch e
    · rcases keyIs_shape hb with ⟨j, u, rfl, e⟩ | ⟨y, u, rfl, e⟩
      · exact nomatch e
      · injection e with e1 _; rw [e1]
  byValue := fun k v h => by
    rcases keyIs_shape h with ⟨i, t, rfl, rfl⟩ | ⟨x, t, rfl, rfl⟩ <;> rfl
  pyHash := fun hv h => by
    rcases keyIs_shape hv with ⟨i, t, rfl, rfl⟩ | ⟨x, t, rfl, rfl⟩
    · exact wpAny_pyHash_int h
    · exact wpAny_pyHash_str h
  eqBool := fun hu hv h => by
    rcases keyIs_shape hu with ⟨i, t, rfl, rfl⟩ | ⟨x, t, rfl, rfl⟩
    · rcases keyIs_shape hv with ⟨j, u, rfl, rfl⟩ | ⟨y, u, rfl, rfl⟩
      · rw [key_ll] at h; exact wpAny_eqBool_int h
      · rw [key_lr] at h; exact SeqAt.EqAt.int_str i t y u _ _ _ _ h
    · rcases keyIs_shape hv with ⟨j, u, rfl, rfl⟩ | ⟨y, u, rfl, rfl⟩
      · rw [key_rl] at h; exact SeqAt.EqAt.str_int x t j u _ _ _ _ h
      · rw [key_rr] at h; exact wpAny_eqBool_str h
  «strs» := fun k x t v h => by
    rcases keyIs_shape h with ⟨i, u, rfl, e⟩ | ⟨y, u, rfl, e⟩
    · exact nomatch e
    · injection e with e1 _
      subst e1
      cases v <;> rfl
end L2
namespace L2
open PySem PySem.Spec PyProof.Rows
inductive V where
  | non | bl (b : Bool) | int (i : Int) | str (x : Str) | byt (b : Array UInt8) | flt (b : UInt64) | ref (a : Addr) | ty (n : String)
  deriving DecidableEq
def RelV : V → Value → Prop
  | .non, u => u = Value.none
  | .bl b, u => u = Value.bool b
  | .int i, u => ∃ t, u = Value.int i t
  | .str x, u => ∃ t, u = Value.str x t
  | .byt b, u => ∃ t, u = Value.bytes b t
  | .flt b, u => ∃ t, u = Value.float b t
  | .ref a, u => u = Value.ref a
  | .ty n, u => u = Value.type n
abbrev Vals : List V → List Value → Prop := Paired RelV
theorem Vals.length {xs : List V} {us : List Value} (r : Vals xs us) : xs.length = us.length := Paired.length r
theorem Vals.get : ∀ {xs : List V} {us : List Value} {i : Nat} {x : V}, Vals xs us → xs[i]? = some x → ∃ u, us[i]? = some u ∧ RelV x u
  | _, _, _, _, .nil, e => by simp at e
  | _, _, 0, _, .cons r _, e => by simp at e; subst e; exact ⟨_, rfl, r⟩
  | _, _, i + 1, x, .cons _ t, e => by
    obtain ⟨u, h1, h2⟩ := Vals.get (i := i) (x := x) t (by simpa using e)
    exact ⟨u, by simpa using h1, h2⟩
theorem Vals.append : ∀ {xs ys : List V} {us ws : List Value}, Vals xs us → Vals ys ws → Vals (xs ++ ys) (us ++ ws)
  | _, _, _, _, .nil, s => s
  | _, _, _, _, .cons r t, s => .cons r (Vals.append t s)
theorem Vals.take : ∀ {xs : List V} {us : List Value} (n : Nat), Vals xs us → Vals (xs.take n) (us.take n)
  | _, _, 0, _ => .nil
  | _, _, _ + 1, .nil => .nil
  | _, _, n + 1, .cons r t => .cons r (Vals.take n t)
theorem Vals.drop : ∀ {xs : List V} {us : List Value} (n : Nat), Vals xs us → Vals (xs.drop n) (us.drop n)
  | _, _, 0, r => r
  | _, _, _ + 1, .nil => .nil
  | _, _, n + 1, .cons _ t => Vals.drop n t
def RelO : Option V → Option Value → Prop
  | some v, some u => RelV v u
  | none, none => True
  | _, _ => False
def KV {κ : Type} : List (κ × V) → List (κ × Value) → Prop := Paired fun (p : κ × V) (q : κ × Value) => p.1 = q.1 ∧ RelV p.2 q.2
def kV : Key → V
  | .inl i => .int i
  | .inr x => .str x
inductive HO where
  /-- a list -/
  | lst (xs : List V)
  /-- a tuple (never changes) -/
  | tup (xs : List V)
  /-- a dict whose keys are ints and texts; one whose keys are tuples of ints and texts (the empty one is both) -/
  | dK (kvs : List (Key × V)) | dT (kvs : List (List Key × V))
  /-- a set of ints: its members, its size -/
  | set (S : Int → Bool) (n : Nat)
  /-- an instance of the class at C, its dict at dx, its attributes -/
  | ins (C dx : Addr) (fs : List (Str × V))
  /-- the dict of the instance at x -/
  | own (x : Addr)
  /-- the dict of an exception -/
  | xd (fs : List (Str × V))
  /-- a bound method, f of x -/
  | met (f x : Addr)
  /-- a range object lo, lo + 1, .. below hi -/
  | rng (lo hi : Int)
  /-- a thing that is known to the object (the script; a dict while a loop walks it): read, never written while it is so -/
  | frz (o : Obj) (u : HO)
  /-- a code object's table -/
  | tbl (ps : Array Value)
  /-- any other thing, by what is true of its one object (a def of one's own: SetO a S n := HO.ext fun h => ..) -/
  | ext (φ : Heap → Prop)
abbrev Hp := Addr → Option HO
def upd (H : Hp) (a : Addr) (o : HO) : Hp := fun b => if b = a then some o else H b
theorem upd_same {H : Hp} {a : Addr} {o : HO} : upd H a o a = some o := by unfold upd; rw [if_pos rfl]
theorem upd_ne {H : Hp} {a b : Addr} {o : HO} (h : b ≠ a) : upd H a o b = H b := by unfold upd; rw [if_neg h]
theorem ne_of_none {H : Hp} {a b : Addr} {o : HO} (h : H a = some o) (h' : H b = none) : a ≠ b := by
  intro e; subst e; rw [h] at h'; cases h'
section
variable (P : Program) (w : World)
def ObjOk (H : Hp) (h : Heap) (a : Addr) : HO → Prop
  | .lst xs => xs.length ≤ sizeLine ∧ ∃ (its : List Value) (n : Nat), Vals xs its ∧ h.get? a = some { cls := .type "list", data := .seq its.toArray n }
  | .tup xs => xs.length ≤ sizeLine ∧ ∃ its : List Value, Vals xs its ∧ IsTup h a its.toArray
  | .dK kvs => kvs.length ≤ sizeLine ∧ (a == sysModules) = false ∧ ∃ vs, KV kvs vs ∧ h.DictOf (mixKind P w) a vs
  | .dT kvs => kvs.length ≤ sizeLine ∧ (a == sysModules) = false ∧ ∃ xs : List (List Key × Addr × Value),
      Paired (fun (p : List Key × V) (q : List Key × Addr × Value) => p.1 = q.1 ∧ H q.2.1 = some (.tup (p.1.map kV)) ∧ RelV p.2 q.2.2) kvs xs ∧
      ∃ o es ep, h.get? a = some o ∧ o.ExactDict ∧ o.data = .dict es ep ∧ es.toList = xs.map (entryOfKey (tupleKind (mixKind P w))) ∧ (xs.map (·.1)).Nodup
  | .set S n => h.SetOf (intKind P w) a S n
  | .ins C dx fs => H dx = some (.own a) ∧ fs.length ≤ 1000 ∧ dx ≠ a ∧ h.get? a = some (PySem.W.instObj C dx) ∧
      ∃ mA, h.Ns1 dx mA ∧ (∀ f, RelO (fs.lookup f) (mA f)) ∧ PySem.Within mA (fs.map (·.1))
  | .own _ => ∃ o, h.get? a = some o
  | .xd fs => ∃ mA, h.Ns1 a mA ∧ ∀ f, RelO (fs.lookup f) (mA f)
  | .rng lo hi => ∃ t u v, h.get? a = some { cls := .type "range", data := .fields #[.int lo t, .int hi u, .int 1 v] }
  | .frz o u => h.get? a = some o ∧ ObjOk H h a u
  | .tbl ps => h.get? a = some { cls := .none, data := .fields ps }
  | .met f x => h.get? a = some (PySem.W.methodObj (.ref f) (.ref x))
  | .ext φ => φ h ∧ (∃ o, h.get? a = some o) ∧ ∀ h1 h2 : Heap, φ h1 → (∀ o, h1.get? a = some o → h2.get? a = some o) → φ h2
def HOk (H : Hp) (h : Heap) : Prop := ∀ a o, H a = some o → ObjOk P w H h a o
end
section
variable {P : Program} {w : World} {H H' : Hp} {h h' : Heap} {a : Addr} {o : HO}
theorem ObjOk.lt (x : ObjOk P w H h a o) : a < h.objs.size := by
  cases o with
  | lst xs => obtain ⟨_, _, _, _, e⟩ := x; exact Heap.lt_size e
  | tup xs => obtain ⟨_, _, _, p⟩ := x; exact p.lt
  | dK kvs => obtain ⟨_, _, _, _, o, _, _, e, _⟩ := x; exact Heap.lt_size e
  | dT kvs => obtain ⟨_, _, _, _, o, _, _, e, _⟩ := x; exact Heap.lt_size e
  | set S n => obtain ⟨o, _, _, _, e, _⟩ := x; exact Heap.lt_size e
  | ins C dx fs => obtain ⟨_, _, _, e, _⟩ := x; exact Heap.lt_size e
  | own y => obtain ⟨_, e⟩ := x; exact Heap.lt_size e
  | xd fs => obtain ⟨_, ⟨_, _, _, e, _⟩, _⟩ := x; exact Heap.lt_size e
  | rng lo hi => obtain ⟨_, _, _, e⟩ := x; exact Heap.lt_size e
  | frz ob u => obtain ⟨e, _⟩ := x; exact Heap.lt_size e
  | tbl ps => exact Heap.lt_size (show h.get? a = some _ from x)
  | met f y => exact Heap.lt_size (show h.get? a = some _ from x)
  | ext φ => obtain ⟨_, ⟨_, e⟩, _⟩ := x; exact Heap.lt_size e
theorem Paired.mapP {α β : Type} {F G : α → β → Prop} : ∀ {l₁ : List α} {l₂ : List β}, Paired F l₁ l₂ → (∀ a b, F a b → G a b) → Paired G l₁ l₂
  | _, _, .nil, _ => .nil
  | _, _, .cons r t, f => .cons (f _ _ r) (Paired.mapP t f)
theorem ObjOk.stay (x : ObjOk P w H h a o) (k : ∀ b u, (b = a ∨ H b = some (.own a)) → h.get? b = some u → h'.get? b = some u)
    (ho : ∀ b, H b = some (.own a) → H' b = some (.own a)) (ht : ∀ b xs, H b = some (.tup xs) → H' b = some (.tup xs)) : ObjOk P w H' h' a o := by
  induction o with
  | lst xs => obtain ⟨z, its, n, r, e⟩ := x; exact ⟨z, its, n, r, k _ _ (.inl rfl) e⟩
  | tup xs => obtain ⟨z, its, r, ob, e, c⟩ := x; exact ⟨z, its, r, ob, k _ _ (.inl rfl) e, c⟩
  | dK kvs => obtain ⟨z, y, vs, r, ob, es, ep, e, c⟩ := x; exact ⟨z, y, vs, r, ob, es, ep, k _ _ (.inl rfl) e, c⟩
  | dT kvs =>
    obtain ⟨z, y, xs, r, ob, es, ep, e, c⟩ := x
    exact ⟨z, y, xs, Paired.mapP r fun p q z => ⟨z.1, ht _ _ z.2.1, z.2.2⟩, ob, es, ep, k _ _ (.inl rfl) e, c⟩
  | set S n => obtain ⟨ob, es, ep, t, e, c⟩ := x; exact ⟨ob, es, ep, t, k _ _ (.inl rfl) e, c⟩
  | ins C dx fs =>
    obtain ⟨d, z, ne, e, mA, ⟨od, es, ep, e2, c⟩, r⟩ := x
    exact ⟨ho _ d, z, ne, k _ _ (.inl rfl) e, mA, ⟨od, es, ep, k _ _ (.inr d) e2, c⟩, r⟩
  | own y => obtain ⟨ob, e⟩ := x; exact ⟨ob, k _ _ (.inl rfl) e⟩
  | xd fs => obtain ⟨mA, ⟨od, es, ep, e, c⟩, r⟩ := x; exact ⟨mA, ⟨od, es, ep, k _ _ (.inl rfl) e, c⟩, r⟩
  | rng lo hi => obtain ⟨t, u, v, e⟩ := x; exact ⟨t, u, v, k _ _ (.inl rfl) e⟩
  | frz ob u ih => obtain ⟨e, q⟩ := x; exact ⟨k _ _ (.inl rfl) e, ih q⟩
  | tbl ps =>
    have e : h.get? a = some { cls := .none, data := .fields ps } := x
    show h'.get? a = some { cls := .none, data := .fields ps }
    exact k a _ (.inl rfl) e
  | met f y =>
    have e : h.get? a = some (PySem.W.methodObj (.ref f) (.ref y)) := x
    show h'.get? a = some (PySem.W.methodObj (.ref f) (.ref y))
    exact k a _ (.inl rfl) e
  | ext φ => obtain ⟨p, ⟨o, e⟩, st⟩ := x; exact ⟨st _ _ p fun o q => k _ _ (.inl rfl) q, ⟨o, k _ _ (.inl rfl) e⟩, st⟩
theorem HOk.lt (x : HOk P w H h) (e : H a = some o) : a < h.objs.size := (x a o e).lt
theorem HOk.fresh (x : HOk P w H h) (e : h.objs.size ≤ a) : H a = none := by
  cases q : H a with
  | none => rfl
  | some u => exact absurd (Nat.lt_of_lt_of_le (x.lt q) e) (Nat.lt_irrefl _)
theorem HOk.kept (x : HOk P w H h) (k : ∀ b u, h.get? b = some u → h'.get? b = some u) : HOk P w H h' := fun a o e =>
  (x a o e).stay (fun b u _ q => k b u q) (fun _ q => q) fun _ _ q => q
theorem HOk.laid (x : HOk P w H h) (k : ∀ b u, h.get? b = some u → h'.get? b = some u) (hp : h.objs.size ≤ a) (new : ObjOk P w (upd H a o) h' a o) : HOk P w (upd H a o) h' := fun b u e => by
  have hn := x.fresh hp
  by_cases hb : b = a
  · subst hb; rw [upd_same] at e; cases e; exact new
  · rw [upd_ne hb] at e
    exact (x b u e).stay (fun c v _ q => k c v q) (fun c q => by rw [upd_ne (ne_of_none q hn)]; exact q) fun c xs q => by rw [upd_ne (ne_of_none q hn)]; exact q
end
def Rd (H : Hp) (a : Addr) (u : HO) : Prop := H a = some u ∨ ∃ o, H a = some (.frz o u)
theorem Rd.ok {P : Program} {w : World} {H : Hp} {h : Heap} {a : Addr} {u : HO} (r : Rd H a u) (x : HOk P w H h) : ObjOk P w H h a u := by
  rcases r with r | ⟨o, r⟩
  · exact x a u r
  · obtain ⟨_, q⟩ := x a _ r
    exact q
def Mut : Option HO → Prop
  | some (.lst _) => True
  | some (.dK _) => True
  | some (.dT _) => True
  | some (.set _ _) => True
  | some (.ins _ _ _) => True
  | some (.ext _) => True
  | _ => False
section
variable {P : Program} {w : World} {H : Hp} {h h' : Heap} {x e : Addr} {o' : HO}
theorem HOk.write (ok : HOk P w H h) (mu : Mut (H x)) (he : e = x ∨ H e = some (.own x)) (k : ∀ b u, b ≠ e → h.get? b = some u → h'.get? b = some u) (heo : ∃ u, h'.get? e = some u)
    (new : ObjOk P w (upd H x o') h' x o') : HOk P w (upd H x o') h' := fun b u q => by
  have nown : ∀ c y, H c = some (.own y) → c ≠ x := fun c y r z => by subst z; rw [r] at mu; exact mu
  have ntup : ∀ c xs, H c = some (.tup xs) → c ≠ x := fun c xs r z => by subst z; rw [r] at mu; exact mu
  by_cases hb : b = x
  · subst hb; rw [upd_same] at q; cases q; exact new
  · rw [upd_ne hb] at q
    by_cases hbe : b = e
    · have q' : H b = some (.own x) := by
        rcases he with z | z
        · exact absurd (hbe.trans z) hb
        · rw [hbe]; exact z
      rw [q] at q'; cases q'
      obtain ⟨v, hv⟩ := heo
      exact ⟨v, by rw [hbe]; exact hv⟩
    · refine (ok b u q).stay (fun c v hc r => k c v ?_ r) (fun c r => by rw [upd_ne (nown c b r)]; exact r) fun c xs r => by rw [upd_ne (ntup c xs r)]; exact r
      rcases hc with rfl | hc
      · exact hbe
      · rintro rfl
        rcases he with z | z
        · exact nown c b hc z
        · rw [hc] at z; cases z; exact hb rfl
end
structure Un (fs ex : List Addr) (H H' : Hp) (h h' : Heap) : Prop where
  keep : ∀ b o, h.get? b = some o → H b = none → b ∉ fs → b ∉ ex → h'.get? b = some o
  slot : ∀ b o, h.get? b = some o → H b = none → b ∈ fs → b ∉ ex → ∃ sl, h'.get? b = some { o with slots := sl }
  free : ∀ b o, h.get? b = some o → H b = none → b ∉ ex → H' b = none
  there : ∀ b o, h.get? b = some o → b ∉ ex → ∃ o', h'.get? b = some o'
  tups : ∀ b xs, H b = some (.tup xs) → H' b = some (.tup xs)
  frzs : ∀ b o u, H b = some (.frz o u) → H' b = some (.frz o u)
  tbls : ∀ b ps, H b = some (.tbl ps) → ∃ more, H' b = some (.tbl (ps ++ more))
section
variable {fs fs' ex ex' : List Addr} {H H1 H2 : Hp} {h h1 h2 h' : Heap} {a x e : Addr} {o : HO}
theorem Un.any (u : Un fs ex H H1 h h1) {b : Addr} {ob : Obj} (q : h.get? b = some ob) (n : H b = none) (hx : b ∉ ex) : ∃ sl, h1.get? b = some { ob with slots := sl } := by
  by_cases hb : b ∈ fs
  · exact u.slot b ob q n hb hx
  · exact ⟨ob.slots, u.keep b ob q n hb hx⟩
theorem Un.kept (k : ∀ b u, h.get? b = some u → h'.get? b = some u) : Un fs ex H H h h' :=
  ⟨fun b ob q _ _ _ => k b ob q, fun b ob q _ _ _ => ⟨ob.slots, k b ob q⟩, fun _ _ _ n _ => n, fun b ob q _ => ⟨ob, k b ob q⟩, fun _ _ q => q, fun _ _ _ q => q, fun _ ps q => ⟨#[], by rw [q]; simp⟩⟩
theorem Un.refl : Un fs ex H H h h := Un.kept fun _ _ q => q
theorem Un.laid (k : ∀ b u, h.get? b = some u → h'.get? b = some u) (hp : h.objs.size ≤ a) (hn : H a = none) : Un fs ex H (upd H a o) h h' where
  keep := fun b u q _ _ _ => k b u q
  slot := fun b u q _ _ _ => ⟨u.slots, k b u q⟩
  free := fun b u q n _ => by rw [upd_ne (Nat.ne_of_lt (Nat.lt_of_lt_of_le (Heap.lt_size q) hp))]; exact n
  there := fun b u q _ => ⟨u, k b u q⟩
  tups := fun b xs q => by rw [upd_ne (ne_of_none q hn)]; exact q
  frzs := fun b u xs q => by rw [upd_ne (ne_of_none q hn)]; exact q
  tbls := fun b ps q => ⟨#[], by rw [upd_ne (ne_of_none q hn), q]; simp⟩
theorem Un.write (mu : Mut (H x)) (he : e = x ∨ H e = some (.own x)) (k : ∀ b u, b ≠ e → h.get? b = some u → h'.get? b = some u) (heo : ∃ u, h'.get? e = some u) : Un fs ex H (upd H x o) h h' := by
  have hx : ∀ b, H b = none → b ≠ x := fun b n z => by subst z; rw [n] at mu; exact mu
  have hb : ∀ b, H b = none → b ≠ e := fun b n z => by
    subst z
    rcases he with r | r
    · exact hx b n r
    · rw [n] at r; cases r
  have hm : ∀ b u, H b = some u → ¬ Mut (some u) → b ≠ x := fun b u q nm z => by subst z; rw [q] at mu; exact nm mu
  refine ⟨fun b u q n _ _ => k b u (hb b n) q, fun b u q n _ _ => ⟨u.slots, k b u (hb b n) q⟩, fun b u q n _ => by rw [upd_ne (hx b n)]; exact n, fun b u q _ => ?_,
    fun b xs q => by rw [upd_ne (hm b _ q fun z => z)]; exact q, fun b u xs q => by rw [upd_ne (hm b _ q fun z => z)]; exact q, fun b ps q => ⟨#[], by rw [upd_ne (hm b _ q fun z => z), q]; simp⟩⟩
  by_cases hbe : b = e
  · subst hbe; exact heo
  · exact ⟨u, k b u hbe q⟩
end
def trk (h : Heap) (H : Hp) : List Addr := (List.range h.objs.size).filter fun a => (H a).isSome
def hidT (h : Heap) (H : Hp) : Heap := PySem.W.hideAll h (trk h H)
theorem hidT_size (h : Heap) (H : Hp) : (hidT h H).objs.size = h.objs.size := PySem.W.hideAll_size _ _
theorem hidT_get {h : Heap} {H : Hp} {b : Addr} {o : Obj} (e : h.get? b = some o) (n : H b = none) : (hidT h H).get? b = some o :=
  PySem.W.hideAll_get _ e fun hm => by
    have q : (H b).isSome = true := (List.mem_filter.mp hm).2
    rw [n] at q; simp at q
theorem of_hidT {h : Heap} {H : Hp} {b : Addr} {o : Obj} (e : (hidT h H).get? b = some o) : h.get? b = some o ∧ H b = none := by
  have e' : h.get? b = some o := PySem.W.of_hideAll (trk h H) e
  refine ⟨e', ?_⟩
  cases q : H b with
  | none => rfl
  | some x =>
    have hm : b ∈ trk h H := List.mem_filter.mpr ⟨List.mem_range.mpr (Heap.lt_size e'), by simp [q]⟩
    have z : (hidT h H).get? b = none := PySem.W.hideAll_none (trk h H) hm
    rw [z] at e; cases e
end L2
namespace L2
open PySem PySem.Spec PyProof.Rows
structure Mod (K : PySem.W.Frag) (mg : Str → Option Value) (base : Heap) : Prop where
  kin : K.In base
  glob : base.Ns mainGlobals mg
  blt : ∃ mb, base.Ns builtinsNs mb ∧ ∀ x : Str, x ≠ "__name__" → mb x = bootBuiltins x
  nolimit : base.NoLimit
structure Cx where
  prog : Program
  w : World
  K : PySem.W.Frag
  mg : Str → Option Value
  base : Heap
  A : Around
  N : List Str
  s₀ : Shared
  H₀ : Hp
  env : Env
  outer : List Env
  stack : List Env
  ex : List Addr
  fn : Str → Bool
  calm : Bool
  pn : List (Addr × Obj)
  xe : Value → Shared → Prop
def frs (l : List Env) : List Addr := l.filterMap (·.frame)
abbrev Cx.fs (X : Cx) : List Addr := frs X.outer
def Vis (sc : Scope) (x : Str) : Prop := sc.names.lookup x = some .local ∨ sc.names.lookup x = some .cell ∨ sc.names.lookup x = some .free
def Loc (sc : Scope) (x : Str) : Prop := sc.names.lookup x = some .local ∨ sc.names.lookup x = some .cell
def Look (env : Env) (h : Heap) (m : Str → Option Value) (x : Str) (u : Value) : Prop :=
  (env.kindOf x = some .local ∧ m x = some u) ∨ ((env.kindOf x = some .cell ∨ env.kindOf x = some .free) ∧ ∃ c, env.cells.lookup x = some c ∧ h.IsCell c (some u))
structure Cx.Ok (X : Cx) : Prop where
  mod : Mod X.K X.mg X.base
  kind : X.env.scope.kind = .function
  glob : X.env.globals = mainGlobals
  blt : X.env.builtins = builtinsNs
  above : X.s₀.heap.objs.size ≤ X.env.locals
  inj : ∀ x y c, X.env.cells.lookup x = some c → X.env.cells.lookup y = some c → x = y
  has : ∀ x, (X.env.kindOf x = some .cell ∨ X.env.kindOf x = some .free) → ∃ c, X.env.cells.lookup x = some c
  cab : ∀ x c, X.fn x = true → X.env.cells.lookup x = some c → X.s₀.heap.objs.size ≤ c
  hd : X.calm = true → X.A.handled = none
  frames : X.A.frames = some X.stack
  stk : X.stack = X.outer ∨ (X.stack = X.env :: X.outer ∧ X.env.frame = some X.env.locals)
  exf : ∀ b ∈ X.ex, b ≠ X.env.locals ∧ ∀ x c, X.env.cells.lookup x = some c → c ≠ b
  bs : ∀ b o, X.base.get? b = some o → X.s₀.heap.get? b = some o ∧ X.H₀ b = none
  bsz : X.base.objs.size ≤ X.s₀.heap.objs.size
  noex : ∀ b o, X.base.get? b = some o → b ∉ X.ex
  exfs : ∀ b ∈ X.ex, b ∉ X.fs
  funs : X.s₀.heap.FunFrames X.base X.outer
  frf : ∀ b ∈ X.fs, X.H₀ b = none
structure Inv (X : Cx) (pins : List (Addr × Obj)) (σ : List (Option V)) (H : Hp) (s : Shared) : Prop where
  ok : X.Ok
  os : s.os = X.s₀.os
  bare : AllBare s.gens
  base : Un X.fs X.ex X.H₀ H X.s₀.heap s.heap
  loc : ∃ m, s.heap.Ns X.env.locals m ∧ ∀ (i : Nat) (x : Str) (v : V), X.N[i]? = some x → σ[i]? = some (some v) → Vis X.env.scope x → ∃ u, RelV v u ∧ Look X.env s.heap m x u
  cell : ∀ x c, X.env.cells.lookup x = some c → ∃ v, s.heap.IsCell c v
  free : H X.env.locals = none
  freeC : ∀ x c, X.env.cells.lookup x = some c → H c = none
  pin : ∀ p ∈ X.pn ++ pins, s.heap.get? p.1 = some p.2 ∧ H p.1 = none ∧ p.1 ≠ X.env.locals ∧ p.1 ∉ X.fs ∧ ∀ v, p.2.data ≠ .cell v
  hok : HOk X.prog X.w H s.heap
  len : σ.length = X.N.length
section
variable {X : Cx} {pins : List (Addr × Obj)} {σ : List (Option V)} {H H' : Hp} {s : Shared} {h' : Heap}
theorem Cx.Ok.nofr (ok : X.Ok) {b : Addr} {o : Obj} (e : X.base.get? b = some o) : b ∉ X.fs := fun hb => by
  have := (ok.funs.mem hb).1
  rw [e] at this; cases this
theorem Inv.bs (I : Inv X pins σ H s) : ∀ b o, X.base.get? b = some o → s.heap.get? b = some o ∧ H b = none := fun b o e =>
  ⟨I.base.keep b o (I.ok.bs b o e).1 (I.ok.bs b o e).2 (I.ok.nofr e) (I.ok.noex b o e), I.base.free b o (I.ok.bs b o e).1 (I.ok.bs b o e).2 (I.ok.noex b o e)⟩
theorem Inv.bk (I : Inv X pins σ H s) : ∀ b o, X.base.get? b = some o → s.heap.get? b = some o := fun b o e => (I.bs b o e).1
theorem Inv.mod (I : Inv X pins σ H s) : Mod X.K X.mg X.base := I.ok.mod
theorem Inv.kIn (I : Inv X pins σ H s) : X.K.In s.heap := I.ok.mod.kin.keeps I.bk
theorem Inv.lt (I : Inv X pins σ H s) : X.env.locals < s.heap.objs.size := let ⟨_, hn, _⟩ := I.loc; hn.lt
theorem Inv.sz (I : Inv X pins σ H s) : X.s₀.heap.objs.size ≤ s.heap.objs.size := Nat.le_trans I.ok.above (Nat.le_of_lt I.lt)
theorem Inv.nofs (I : Inv X pins σ H s) {a : Addr} (h : s.heap.objs.size ≤ a) : a ∉ X.fs := fun hb => by
  obtain ⟨_, o, ho, _⟩ := I.ok.funs.mem hb
  exact absurd (Nat.lt_of_lt_of_le (Heap.lt_size ho) (Nat.le_trans I.sz h)) (Nat.lt_irrefl _)
theorem Inv.cne (I : Inv X pins σ H s) : ∀ x c, X.env.cells.lookup x = some c → c ≠ X.env.locals := fun x c e z => by
  obtain ⟨v, o, ho, hd⟩ := I.cell x c e
  obtain ⟨m, ⟨o', es, ep, ho', hd', _⟩, _⟩ := I.loc
  rw [z, ho'] at ho; cases ho; rw [hd'] at hd; cases hd
theorem Inv.funs (I : Inv X pins σ H s) : s.heap.FunFrames X.base X.outer := by
  have all : ∀ (l : List Env), (∀ b ∈ frs l, b ∈ X.fs) → X.s₀.heap.FunFrames X.base l → s.heap.FunFrames X.base l := by
    intro l
    induction l with
    | nil => intro _ _; trivial
    | cons env r ih =>
      intro hs hl
      obtain ⟨hk, ⟨L, o, hf, hn, ho, hd⟩, hr⟩ := hl
      have hL : L ∈ X.fs := hs L (by unfold frs; rw [List.filterMap_cons, hf]; exact List.mem_cons_self)
      obtain ⟨sl, e⟩ := I.base.slot L o ho (I.ok.frf L hL) hL fun z => I.ok.exfs L z hL
      exact ⟨hk, ⟨L, _, hf, hn, e, hd⟩, ih (fun b hb => hs b (by unfold frs; rw [List.filterMap_cons, hf]; exact List.mem_cons_of_mem _ hb)) hr⟩
  exact all X.outer (fun _ hb => hb) I.ok.funs
theorem Inv.stack (I : Inv X pins σ H s) : s.heap.FunFrames X.base X.stack := by
  rcases I.ok.stk with e | ⟨e, hf⟩
  · rw [e]; exact I.funs
  · rw [e]
    obtain ⟨m, hn, _⟩ := I.loc
    refine .cons (by rw [I.ok.kind]; decide) hf hn ?_ I.funs
    exact Heap.get?_none_of_le (Nat.le_trans I.ok.bsz I.ok.above)
theorem Inv.stkSub (I : Inv X pins σ H s) : ∀ b ∈ frs X.stack, b ∈ X.env.locals :: X.fs := fun b hb => by
  rcases I.ok.stk with e | ⟨e, hf⟩
  · rw [e] at hb; exact List.mem_cons_of_mem _ hb
  · rw [e] at hb
    unfold frs at hb
    rw [List.filterMap_cons, hf] at hb
    exact hb
theorem Inv.stkFree (I : Inv X pins σ H s) : ∀ b ∈ frs X.stack, H b = none := fun b hb => by
  rcases List.mem_cons.mp (I.stkSub b hb) with e | hb
  · rw [e]; exact I.free
  · obtain ⟨_, o, ho, _⟩ := I.ok.funs.mem hb
    exact I.base.free b o ho (I.ok.frf b hb) fun z => I.ok.exfs b z hb
theorem Inv.step {g' : Array GenState} {t' : Nat} {d' : Drawn} {ch : List Addr} (I : Inv X pins σ H s)
    (hch : ∀ b ∈ ch, (b ∈ X.ex ∨ X.s₀.heap.objs.size ≤ b) ∧ b ≠ X.env.locals ∧ (∀ x c, X.env.cells.lookup x = some c → c ≠ b) ∧ ∀ p ∈ X.pn ++ pins, p.1 ≠ b)
    (keep : ∀ b o, b ≠ X.env.locals → b ∉ X.fs → b ∉ ch → s.heap.get? b = some o → H b = none → h'.get? b = some o)
    (slot : ∀ b o, b ≠ X.env.locals → b ∈ X.fs → b ∉ ch → s.heap.get? b = some o → H b = none → ∃ sl, h'.get? b = some { o with slots := sl }) (free : ∀ b o, b ∉ ch → s.heap.get? b = some o → H b = none → H' b = none)
    (there : ∀ b o, b ∉ ch → s.heap.get? b = some o → ∃ o', h'.get? b = some o')
    (tups : ∀ b xs, H b = some (.tup xs) → H' b = some (.tup xs)) (frzs : ∀ b o u, H b = some (.frz o u) → H' b = some (.frz o u)) (tbls : ∀ b ps, H b = some (.tbl ps) → ∃ more, H' b = some (.tbl (ps ++ more)))
    (ns : ∀ m, s.heap.Ns X.env.locals m → h'.Ns X.env.locals m) (hok : HOk X.prog X.w H' h') (hg : AllBare g') :
    Inv X pins σ H' { s with heap := h', gens := g', drawn := d', toks := t' } := by
  have neL : ∀ b o, X.s₀.heap.get? b = some o → b ≠ X.env.locals := fun b o e => Nat.ne_of_lt (Nat.lt_of_lt_of_le (Heap.lt_size e) I.ok.above)
  have neC : ∀ b o, X.s₀.heap.get? b = some o → b ∉ X.ex → b ∉ ch := fun b o e hx hb => by
    rcases (hch b hb).1 with z | z
    · exact hx z
    · exact absurd (Nat.lt_of_lt_of_le (Heap.lt_size e) z) (Nat.lt_irrefl _)
  have cellK : ∀ x c, X.env.cells.lookup x = some c → ∀ v, s.heap.IsCell c v → h'.IsCell c v := fun x c e v ⟨o, ho, hd⟩ => by
    have nch : c ∉ ch := fun z => (hch c z).2.2.1 x c e rfl
    by_cases hc : c ∈ X.fs
    · obtain ⟨sl, q⟩ := slot c o (I.cne x c e) hc nch ho (I.freeC x c e)
      exact ⟨_, q, hd⟩
    · exact ⟨o, keep c o (I.cne x c e) hc nch ho (I.freeC x c e), hd⟩
  refine ⟨I.ok, I.os, hg, ⟨fun b o e n hb hx => ?_, fun b o e n hb hx => ?_, fun b o e n hx => ?_, fun b o e hx => ?_, fun b xs e => tups b xs (I.base.tups b xs e), fun b o xs e => frzs b o xs (I.base.frzs b o xs e), fun b ps e => ?_⟩, ?_, fun x c e => ?_, ?_, fun x c e => ?_, fun p hp => ?_, hok, I.len⟩
  · exact keep b o (neL b o e) hb (neC b o e hx) (I.base.keep b o e n hb hx) (I.base.free b o e n hx)
  · obtain ⟨sl, e1⟩ := I.base.slot b o e n hb hx
    obtain ⟨sl', e2⟩ := slot b _ (neL b o e) hb (neC b o e hx) e1 (I.base.free b o e n hx)
    exact ⟨sl', e2⟩
  · obtain ⟨o', e1⟩ := I.base.there b o e hx
    exact free b o' (neC b o e hx) e1 (I.base.free b o e n hx)
  · obtain ⟨o', e1⟩ := I.base.there b o e hx
    exact there b o' (neC b o e hx) e1
  · obtain ⟨m1, e1⟩ := I.base.tbls b ps e
    obtain ⟨m2, e2⟩ := tbls b _ e1
    exact ⟨m1 ++ m2, by rw [e2, Array.append_assoc]⟩
  · obtain ⟨m, hn, hl⟩ := I.loc
    refine ⟨m, ns m hn, fun i x v e1 e2 e3 => ?_⟩
    obtain ⟨u, r, l⟩ := hl i x v e1 e2 e3
    refine ⟨u, r, ?_⟩
    rcases l with l | ⟨k, c, e, z⟩
    · exact .inl l
    · exact .inr ⟨k, c, e, cellK x c e _ z⟩
  · obtain ⟨v, z⟩ := I.cell x c e
    exact ⟨v, cellK x c e v z⟩
  · obtain ⟨m, ⟨o, _, _, ho, _⟩, _⟩ := I.loc
    exact free _ o (fun z => (hch _ z).2.1 rfl) ho I.free
  · obtain ⟨v, o, ho, hd⟩ := I.cell x c e
    exact free c o (fun z => (hch c z).2.2.1 x c e rfl) ho (I.freeC x c e)
  · obtain ⟨e, n, ne, nf, d⟩ := I.pin p hp
    have nch : p.1 ∉ ch := fun z => (hch p.1 z).2.2.2 p hp rfl
    exact ⟨keep p.1 p.2 ne nf nch e n, free p.1 p.2 nch e n, ne, nf, d⟩
theorem Inv.un {t' : Nat} (I : Inv X pins σ H s) (u : Un X.fs [] H H' s.heap h') (hok : HOk X.prog X.w H' h') : Inv X pins σ H' { s with heap := h', toks := t' } := by
  obtain ⟨m, ⟨o, es, ep, ho, r⟩, _⟩ := id I.loc
  obtain ⟨sl, hL⟩ := u.any ho I.free (by simp)
  exact I.step (g' := s.gens) (d' := s.drawn) (ch := []) (fun _ z => nomatch z) (fun b o _ hb _ e n => u.keep b o e n hb (by simp)) (fun b o _ hb _ e n => u.slot b o e n hb (by simp)) (fun b o _ e n => u.free b o e n (by simp)) (fun b o _ e => u.there b o e (by simp)) u.tups u.frzs u.tbls (fun m' hm => by
    obtain ⟨o', es', ep', ho', r'⟩ := hm
    rw [ho] at ho'; cases ho'
    exact ⟨_, es', ep', hL, r'⟩) hok I.bare
theorem Inv.call {g' : Array GenState} {t' : Nat} {d' : Drawn} {ch : List Addr} (I : Inv X pins σ H s) (u : Un (frs X.stack) ch H H' s.heap h') (hok : HOk X.prog X.w H' h') (hg : AllBare g')
    (hch : ∀ b ∈ ch, (b ∈ X.ex ∨ X.s₀.heap.objs.size ≤ b) ∧ b ≠ X.env.locals ∧ (∀ x c, X.env.cells.lookup x = some c → c ≠ b) ∧ ∀ p ∈ X.pn ++ pins, p.1 ≠ b) :
    Inv X pins σ H' { s with heap := h', gens := g', drawn := d', toks := t' } := by
  obtain ⟨m, ⟨o, es, ep, ho, r⟩, _⟩ := id I.loc
  obtain ⟨sl, hL⟩ := u.any ho I.free fun z => (hch _ z).2.1 rfl
  exact I.step (ch := ch) hch (fun b o hL hb hc e n => u.keep b o e n (fun z => (List.mem_cons.mp (I.stkSub b z)).elim hL hb) hc) (fun b o _ _ hc e n => u.any e n hc) (fun b o hc e n => u.free b o e n hc) (fun b o hc e => u.there b o e hc) u.tups u.frzs u.tbls (fun m' hm => by
    obtain ⟨o', es', ep', ho', r'⟩ := hm
    rw [ho] at ho'; cases ho'
    exact ⟨_, es', ep', hL, r'⟩) hok hg
theorem Inv.turned {t' : Nat} {it : Addr} (I : Inv X pins σ H s) (k : ∀ b o, b ≠ it → s.heap.get? b = some o → h'.get? b = some o) (hn : H it = none) (hL : it ≠ X.env.locals)
    (h1 : it ∈ X.ex ∨ X.s₀.heap.objs.size ≤ it) (h2 : ∀ x c, X.env.cells.lookup x = some c → c ≠ it) (h3 : ∀ p ∈ X.pn ++ pins, p.1 ≠ it) : Inv X pins σ H { s with heap := h', toks := t' } := by
  have nit : ∀ b u, H b = some u → b ≠ it := fun b u e z => by rw [z, hn] at e; cases e
  refine I.step (g' := s.gens) (d' := s.drawn) (ch := [it]) (fun b hb => ?_) (fun b o _ _ hc e _ => k b o (fun z => hc (by simp [z])) e) (fun b o _ _ hc e _ => ⟨o.slots, k b o (fun z => hc (by simp [z])) e⟩) (fun _ _ _ _ n => n)
    (fun b o hc e => ⟨o, k b o (fun z => hc (by simp [z])) e⟩) (fun _ _ e => e) (fun _ _ _ e => e) (fun b ps e => ⟨#[], by rw [e]; simp⟩) (fun m hm => ?_) (fun b u e => ?_) I.bare
  · have e : b = it := by simpa using hb
    subst e
    exact ⟨h1, hL, h2, h3⟩
  · obtain ⟨o, es, ep, ho, r⟩ := hm
    exact ⟨o, es, ep, k _ o (Ne.symm hL) ho, r⟩
  · refine (I.hok b u e).stay (fun c v hc q => k c v ?_ q) (fun _ q => q) fun _ _ q => q
    rcases hc with z | z
    · rw [z]; exact nit b u e
    · exact nit c _ z
theorem Inv.tok (I : Inv X pins σ H s) (t : Nat) : Inv X pins σ H { s with toks := t } := I.un (h' := s.heap) (t' := t) Un.refl I.hok
theorem Inv.kept {t' : Nat} (I : Inv X pins σ H s) (k : ∀ b u, s.heap.get? b = some u → h'.get? b = some u) : Inv X pins σ H { s with heap := h', toks := t' } := I.un (Un.kept k) (I.hok.kept k)
theorem Inv.laid {a : Addr} {o : HO} {t' : Nat} (I : Inv X pins σ H s) (k : ∀ b u, s.heap.get? b = some u → h'.get? b = some u) (hp : s.heap.objs.size ≤ a) (new : ObjOk X.prog X.w (upd H a o) h' a o) :
    Inv X pins σ (upd H a o) { s with heap := h', toks := t' } := I.un (Un.laid k hp (I.hok.fresh hp)) (I.hok.laid k hp new)
theorem Inv.write {x e : Addr} {o : HO} {t' : Nat} (I : Inv X pins σ H s) (mu : Mut (H x)) (he : e = x ∨ H e = some (.own x)) (k : ∀ b u, b ≠ e → s.heap.get? b = some u → h'.get? b = some u) (heo : ∃ u, h'.get? e = some u)
    (new : ObjOk X.prog X.w (upd H x o) h' x o) : Inv X pins σ (upd H x o) { s with heap := h', toks := t' } := I.un (Un.write mu he k heo) (I.hok.write mu he k heo new)
theorem Inv.pins_of {pins' : List (Addr × Obj)} (I : Inv X pins σ H s) (h : ∀ p ∈ pins', s.heap.get? p.1 = some p.2 ∧ H p.1 = none ∧ p.1 ≠ X.env.locals ∧ p.1 ∉ X.fs ∧ ∀ v, p.2.data ≠ .cell v) : Inv X pins' σ H s :=
  ⟨I.ok, I.os, I.bare, I.base, I.loc, I.cell, I.free, I.freeC, fun p hp => (List.mem_append.mp hp).elim (fun z => I.pin p (List.mem_append_left _ z)) (h p), I.hok, I.len⟩
theorem nodup_ix {N : List Str} (hN : N.Nodup) {i j : Nat} {x : Str} (a : N[i]? = some x) (b : N[j]? = some x) : i = j := by
  obtain ⟨h1, e1⟩ := List.getElem?_eq_some_iff.mp a
  obtain ⟨h2, e2⟩ := List.getElem?_eq_some_iff.mp b
  exact (List.getElem_inj hN).mp (e1.trans e2.symm)
theorem store_ok2 {M : Model} {A : Around} {E : Value → Shared → Prop} {i : Nat} {x : Str} {v : V} {u : Value} {Q : Unit → Shared → Prop} (I : Inv X pins σ H s) (hN : X.N.Nodup) (hi : X.N[i]? = some x) (hx : Loc X.env.scope x) (r : RelV v u)
    (h : ∀ s', Inv X pins (σ.set i (some v)) H s' → (∃ a, Heap.SameBut a s.heap s'.heap ∧ (a = X.env.locals ∨ X.env.cells.lookup x = some a)) → Q () s') (hf : X.fn x = true ∨ X.env.scope.names.lookup x = some .local := by first | exact .inl rfl | exact .inr rfl | assumption) : wpAny M A (storeName X.env x u) Q E s := by
  obtain ⟨m, hn, hl⟩ := id I.loc
  have hcls : (X.env.scope.kind == .class || (X.env.scope.kind == .module && X.env.locals != X.env.globals)) = false := by rw [I.ok.kind]; rfl
  have hiσ : i < σ.length := by rw [I.len]; exact (List.getElem?_eq_some_iff.mp hi).1
  have cne := I.cne
  have tracked : ∀ {a : Addr} {h' : Heap}, (∃ o, s.heap.get? a = some o ∧ H a = none) → Heap.SameBut a s.heap h' → HOk X.prog X.w H h' := fun {a h'} ha hs b ob e => by
    obtain ⟨_, _, hfree⟩ := ha
    refine (I.hok b ob e).stay (fun c w' hc q => (hs.2 c ?_).trans q) (fun _ q => q) fun _ _ q => q
    rintro rfl
    rcases hc with rfl | hc
    · rw [hfree] at e; cases e
    · rw [hfree] at hc; cases hc
  rcases hx with hk | hk
  · refine wpAny_storeName_local hk hn (fun h' hn' hs => ?_) hcls
    obtain ⟨oL, _, _, hoL, _⟩ := id hn
    refine h _ ⟨I.ok, I.os, I.bare, ⟨fun b o e n hb hx => ?_, fun b o e n hb hx => ?_, I.base.free, fun b o e hx => ?_, I.base.tups, I.base.frzs, I.base.tbls⟩, ⟨_, hn', fun j y v' e1 e2 e3 => ?_⟩, fun y c e => ?_, I.free, I.freeC, fun p hp => ?_, tracked ⟨oL, hoL, I.free⟩ hs, by simpa using I.len⟩ ⟨_, hs, .inl rfl⟩
    · exact (hs.2 b (Nat.ne_of_lt (Nat.lt_of_lt_of_le (Heap.lt_size e) I.ok.above))).trans (I.base.keep b o e n hb hx)
    · obtain ⟨sl, e1⟩ := I.base.slot b o e n hb hx
      exact ⟨sl, (hs.2 b (Nat.ne_of_lt (Nat.lt_of_lt_of_le (Heap.lt_size e) I.ok.above))).trans e1⟩
    · obtain ⟨o', e1⟩ := I.base.there b o e hx
      exact ⟨o', (hs.2 b (Nat.ne_of_lt (Nat.lt_of_lt_of_le (Heap.lt_size e) I.ok.above))).trans e1⟩
    · by_cases hj : j = i
      · subst hj
        rw [hi] at e1; cases e1
        rw [List.getElem?_set_self hiσ] at e2
        cases e2
        exact ⟨u, r, .inl ⟨hk, by simp⟩⟩
      · rw [List.getElem?_set_ne (Ne.symm hj)] at e2
        obtain ⟨u', r', q⟩ := hl j y v' e1 e2 e3
        refine ⟨u', r', ?_⟩
        rcases q with ⟨k, e⟩ | ⟨k, c, e, z⟩
        · refine .inl ⟨k, ?_⟩
          have : y ≠ x := fun e => hj (nodup_ix hN e1 (e ▸ hi))
          simp [this, e]
        · exact .inr ⟨k, c, e, z.sameBut hs (cne y c e)⟩
    · obtain ⟨w', z⟩ := I.cell y c e
      exact ⟨w', z.sameBut hs (cne y c e)⟩
    · obtain ⟨e, n, ne, nf, d⟩ := I.pin p hp
      exact ⟨(hs.2 p.1 ne).trans e, n, ne, nf, d⟩
  · have hfn : X.fn x = true := by
      rcases hf with z | z
      · exact z
      · rw [z] at hk; cases hk
    obtain ⟨c, hc⟩ := I.ok.has x (.inl hk)
    obtain ⟨w', z⟩ := I.cell x c hc
    refine wpAny_storeName_cell I.ok.kind hk hc z (fun h' hc' hs => ?_)
    obtain ⟨oc, hoc, hocd⟩ := id z
    refine h { s with heap := h' } ⟨I.ok, I.os, I.bare, ⟨fun b o e n hb hx => ?_, fun b o e n hb hx => ?_, I.base.free, fun b o e hx => ?_, I.base.tups, I.base.frzs, I.base.tbls⟩, ⟨m, hn.sameBut hs (Ne.symm (cne x c hc)), fun j y v' e1 e2 e3 => ?_⟩, fun y c' e => ?_, I.free, I.freeC, fun p hp => ?_, tracked ⟨oc, hoc, I.freeC x c hc⟩ hs, by simpa using I.len⟩ ⟨c, hs, .inr hc⟩
    · exact (hs.2 b (Nat.ne_of_lt (Nat.lt_of_lt_of_le (Heap.lt_size e) (I.ok.cab x c hfn hc)))).trans (I.base.keep b o e n hb hx)
    · obtain ⟨sl, e1⟩ := I.base.slot b o e n hb hx
      exact ⟨sl, (hs.2 b (Nat.ne_of_lt (Nat.lt_of_lt_of_le (Heap.lt_size e) (I.ok.cab x c hfn hc)))).trans e1⟩
    · obtain ⟨o', e1⟩ := I.base.there b o e hx
      exact ⟨o', (hs.2 b (Nat.ne_of_lt (Nat.lt_of_lt_of_le (Heap.lt_size e) (I.ok.cab x c hfn hc)))).trans e1⟩
    · by_cases hj : j = i
      · subst hj
        rw [hi] at e1; cases e1
        rw [List.getElem?_set_self hiσ] at e2
        cases e2
        exact ⟨u, r, .inr ⟨.inl hk, c, hc, hc'⟩⟩
      · rw [List.getElem?_set_ne (Ne.symm hj)] at e2
        obtain ⟨u', r', q⟩ := hl j y v' e1 e2 e3
        refine ⟨u', r', ?_⟩
        rcases q with q | ⟨k, c', e, z'⟩
        · exact .inl q
        · refine .inr ⟨k, c', e, z'.sameBut hs ?_⟩
          rintro rfl
          exact hj (nodup_ix hN e1 (I.ok.inj _ _ _ e hc ▸ hi))
    · by_cases hcc : c' = c
      · subst hcc; exact ⟨_, hc'⟩
      · obtain ⟨w2, z2⟩ := I.cell y c' e
        exact ⟨w2, z2.sameBut hs hcc⟩
    · obtain ⟨e, n, ne, nf, d⟩ := I.pin p hp
      refine ⟨(hs.2 p.1 ?_).trans e, n, ne, nf, d⟩
      intro q
      rw [q, hoc] at e
      have q' : oc = p.2 := Option.some.inj e
      exact d w' (by rw [← q']; exact hocd)
theorem store_ok {M : Model} {A : Around} {E : Value → Shared → Prop} {i : Nat} {x : Str} {v : V} {u : Value} {Q : Unit → Shared → Prop} (I : Inv X pins σ H s) (hN : X.N.Nodup) (hi : X.N[i]? = some x) (hx : Loc X.env.scope x) (r : RelV v u)
    (h : ∀ s', Inv X pins (σ.set i (some v)) H s' → Q () s') (hf : X.fn x = true ∨ X.env.scope.names.lookup x = some .local := by first | exact .inl rfl | exact .inr rfl | assumption) : wpAny M A (storeName X.env x u) Q E s :=
  store_ok2 I hN hi hx r (fun s' I' _ => h s' I') hf
theorem Inv.call' {s' : Shared} {ch : List Addr} (I : Inv X pins σ H s) (ho : s'.os = s.os) (u : Un (frs X.stack) ch H H' s.heap s'.heap) (hok : HOk X.prog X.w H' s'.heap) (hg : AllBare s'.gens)
    (hch : ∀ b ∈ ch, (b ∈ X.ex ∨ X.s₀.heap.objs.size ≤ b) ∧ b ≠ X.env.locals ∧ (∀ x c, X.env.cells.lookup x = some c → c ≠ b) ∧ ∀ p ∈ X.pn ++ pins, p.1 ≠ b) : Inv X pins σ H' s' := by
  obtain ⟨h', g', d', t', o'⟩ := s'
  have e : o' = s.os := ho
  subst e
  exact I.call (g' := g') (t' := t') (d' := d') u hok hg hch
end
abbrev XK := Value → Option Addr → Hp → Prop
abbrev St := List (Option V)
abbrev VK := V → Hp → Prop
abbrev TE := St → Hp → VK → Prop
abbrev TT := St → Hp → (Bool → Hp → Prop) → Prop
abbrev TA := St → Hp → (List V → Hp → Prop) → Prop
structure Ends where
  nx : St → Hp → Prop
  rt : VK
  bk : St → Hp → Prop := fun _ _ => False
  ct : St → Hp → Prop := fun _ _ => False
abbrev TS := Ends → St → Hp → Prop
def EP (X : Cx) (pins : List (Addr × Obj)) (σ : St) (Q : VK) (u : Value) (s' : Shared) : Prop := ∃ v H', Inv X pins σ H' s' ∧ RelV v u ∧ Q v H'
def TP (X : Cx) (pins : List (Addr × Obj)) (σ : St) (Q : Bool → Hp → Prop) (b : Bool) (s' : Shared) : Prop := ∃ H', Inv X pins σ H' s' ∧ Q b H'
def AP (X : Cx) (pins : List (Addr × Obj)) (σ : St) (Q : List V → Hp → Prop) (us : List Value) (s' : Shared) : Prop := ∃ vs H', Inv X pins σ H' s' ∧ Vals vs us ∧ Q vs H'
def SP (X : Cx) (pins : List (Addr × Obj)) (D : Ends) (f : Flow) (s' : Shared) : Prop :=
  match f with
  | .next => ∃ σ' H', Inv X pins σ' H' s' ∧ D.nx σ' H'
  | .brk => ∃ σ' H', Inv X pins σ' H' s' ∧ D.bk σ' H'
  | .cont => ∃ σ' H', Inv X pins σ' H' s' ∧ D.ct σ' H'
  | .ret u => ∃ v σ' H', Inv X pins σ' H' s' ∧ RelV v u ∧ D.rt v H'
def PE (X : Cx) (e : Expr) (t : TE) : Prop :=
  ∀ (pins : List (Addr × Obj)) (s : Shared) (σ : St) (H : Hp) (Q : VK), Inv X pins σ H s → t σ H Q → wpAny (model X.prog X.w) X.A (eval e X.env) (EP X pins σ Q) X.xe s
def PT (X : Cx) (e : Expr) (t : TT) : Prop :=
  ∀ (pins : List (Addr × Obj)) (s : Shared) (σ : St) (H : Hp) (Q : Bool → Hp → Prop), Inv X pins σ H s → t σ H Q → wpAny (model X.prog X.w) X.A (isTrue e X.env (eval e X.env)) (TP X pins σ Q) X.xe s
def PW (X : Cx) (e : Expr) (t : TT) : Prop :=
  ∀ (whole : Sem Value) (pins : List (Addr × Obj)) (s : Shared) (σ : St) (H : Hp) (Q : Bool → Hp → Prop), Inv X pins σ H s → t σ H Q → wpAny (model X.prog X.w) X.A (isTrue e X.env whole) (TP X pins σ Q) X.xe s
theorem PW.pt {X : Cx} {e : Expr} {t : TT} (h : PW X e t) : PT X e t := h _
def PA (X : Cx) (es : List Expr) (t : TA) : Prop :=
  ∀ (pos : Pos) (pins : List (Addr × Obj)) (s : Shared) (σ : St) (H : Hp) (Q : List V → Hp → Prop), Inv X pins σ H s → t σ H Q → wpAny (model X.prog X.w) X.A (spliced (backTo pos (starEach es X.env))) (AP X pins σ Q) X.xe s
def PS (X : Cx) (st : Stmt) (t : TS) : Prop :=
  ∀ (pins : List (Addr × Obj)) (s : Shared) (σ : St) (H : Hp) (D : Ends), Inv X pins σ H s → t D σ H → wpAny (model X.prog X.w) X.A (exec st X.env) (SP X pins D) X.xe s
def PSs (X : Cx) (st : List Stmt) (t : TS) : Prop :=
  ∀ (pins : List (Addr × Obj)) (s : Shared) (σ : St) (H : Hp) (D : Ends), Inv X pins σ H s → t D σ H → wpAny (model X.prog X.w) X.A (execs st X.env) (SP X pins D) X.xe s
theorem thn {α : Type} {t : Sem α} {Q Q' : α → Shared → Prop} {M : Model} {A : Around} {E : Value → Shared → Prop} {s : Shared} (h : wpAny M A t Q E s) (hQ : ∀ a s, Q a s → Q' a s) : wpAny M A t Q' E s := wpAny_mono h hQ fun _ _ x => x
end L2
namespace L2
open PySem PySem.Spec PyProof.Rows
section
variable {X : Cx}
def tVar (i : Nat) : TE := fun σ H Q => ∃ v, σ[i]? = some (some v) ∧ Q v H
def tC (v : V) : TE := fun _ H Q => Q v H
theorem pe_var {i : Nat} {x : Str} {pos : Pos} (hN : X.N[i]? = some x) (hv : Vis X.env.scope x) (hd : (x == ("__debug__" : Str)) = false := by decide) (hcd : (x == ("__classdict__" : Str)) = false := by decide) : PE X (.Name x pos) (tVar i) := by
  intro pins s σ H Q I h
  obtain ⟨v, e, h⟩ := h
  obtain ⟨m, hn, hl⟩ := I.loc
  obtain ⟨u, r, l⟩ := hl i x v hN e hv
  have fin : EP X pins σ Q u s := ⟨v, H, I, r, h⟩
  rcases l with ⟨hk, hm⟩ | ⟨hk, c, hc, hcell⟩
  · exact wpAny_Name (wpAny_loadName_local I.ok.kind hk hn hm fin) hd
  · rcases hk with hk | hk
    · exact wpAny_Name (wpAny_loadName_cell I.ok.kind hk hc hcell fin) hd
    · exact wpAny_Name (wpAny_loadName_free I.ok.kind hk hc hcell fin hcd) hd
theorem pe_int {i j pos} : PE X (.Constant (.int i) j pos) (tC (.int i)) := fun _ _ _ H _ I h => wpAny_Constant_int ⟨.int i, H, I.tok _, ⟨_, rfl⟩, h⟩
theorem pe_bl {b j pos} : PE X (.Constant (.bool b) j pos) (tC (.bl b)) := fun _ _ _ H _ I h => Constant_bool ⟨.bl b, H, I, rfl, h⟩
theorem pe_str {x j pos} : PE X (.Constant (.str x) j pos) (tC (.str x)) := fun _ _ _ H _ I h => Calls.Constant_str ⟨.str x, H, I.tok _, ⟨_, rfl⟩, h⟩
def Gl (X : Cx) (x : Str) : Prop := X.env.kindOf x = some .globalImplicit
theorem ld_glob {E : Value → Shared → Prop} {pins : List (Addr × Obj)} {s : Shared} {σ : St} {H : Hp} {x : Str} {u : Value} {pos : Pos} {Q : Value → Shared → Prop} (I : Inv X pins σ H s) (hg : Gl X x) (hm : X.mg x = some u) (h : Q u s)
    (hd : (x == ("__debug__" : Str)) = false := by decide) : wpAny (model X.prog X.w) X.A (eval (.Name x pos) X.env) Q E s :=
  Calls.Name_function_global I.ok.kind hg (Calls.loadGlobal_global (by rw [I.ok.glob]; exact I.mod.glob.keeps I.bk) hm h) hd
theorem ld_blt {E : Value → Shared → Prop} {pins : List (Addr × Obj)} {s : Shared} {σ : St} {H : Hp} {x : Str} {u : Value} {pos : Pos} {Q : Value → Shared → Prop} (I : Inv X pins σ H s) (hg : Gl X x) (hm : X.mg x = none) (hv : bootBuiltins x = some u) (h : Q u s)
    (hn : x ≠ "__name__" := by decide) (hd : (x == ("__debug__" : Str)) = false := by decide) : wpAny (model X.prog X.w) X.A (eval (.Name x pos) X.env) Q E s := by
  obtain ⟨mb, h1, h2⟩ := I.mod.blt
  exact Calls.Name_function_global I.ok.kind hg (Calls.loadGlobal_builtin (by rw [I.ok.glob]; exact I.mod.glob.keeps I.bk) hm (by rw [I.ok.blt]; exact h1.keeps I.bk) ((h2 x hn).trans hv) h) hd
theorem pe_glob {x : Str} {v : V} {u : Value} {pos : Pos} (hg : Gl X x) (hm : X.mg x = some u) (r : RelV v u) (hd : (x == ("__debug__" : Str)) = false := by decide) : PE X (.Name x pos) (tC v) :=
  fun _ _ _ H _ I h => ld_glob I hg hm ⟨v, H, I, r, h⟩ hd
theorem pe_bltn {x : Str} {v : V} {u : Value} {pos : Pos} (hg : Gl X x) (hm : X.mg x = none) (hv : bootBuiltins x = some u) (r : RelV v u) (hn : x ≠ "__name__" := by decide) (hd : (x == ("__debug__" : Str)) = false := by decide) : PE X (.Name x pos) (tC v) :=
  fun _ _ _ H _ I h => ld_blt I hg hm hv ⟨v, H, I, r, h⟩ hn hd
variable {a b : Expr} {ta tb : TE} {pos : Pos}
theorem nobehind (b : Expr) {op : CmpOp} (h : op ≠ .In) (h2 : op ≠ .NotIn) : behindInMarks op b = false := by
  have e1 : (op == CmpOp.In) = false := by cases op <;> first | rfl | exact absurd rfl h
  have e2 : (op == CmpOp.NotIn) = false := by cases op <;> first | rfl | exact absurd rfl h2
  cases b <;> simp [behindInMarks, e1, e2]
def tB (t : TE) : TT := fun σ H Q => t σ H fun x H1 => ∃ c, x = .bl c ∧ Q c H1
theorem pt_val {e : Expr} {t : TE} (h : PE X e t) (he : ∀ whole, isTrue e X.env whole = (do let v ← whole; standAt e.pos; holding [v] (truthy v)) := by intro _; rfl) : PT X e (tB t) := by
  intro pins s σ H Q I hw
  refine isTrue_plain (thn (h pins s σ H _ I hw) fun v s1 ⟨x, H1, I1, r1, q1⟩ => ?_) (he _)
  obtain ⟨d, rfl, q⟩ := q1
  cases r1
  exact wpAny_truthy_bool ⟨H1, I1, q⟩
variable {tA tB' : TT} {rest : List Expr}
def tOr (t u : TT) : TT := fun σ H Q => t σ H fun c H1 => if c = true then Q true H1 else u σ H1 Q
def tNot (t : TT) : TT := fun σ H Q => t σ H fun c H1 => Q (!c) H1
theorem pw_or1 (ha : PT X a tA) : PW X (.BoolOp .Or [a] pos) tA := by
  intro wh pins s σ H Q I h
  refine isTrue_or (thn (ha pins s σ H Q I h) fun c s1 e => ?_)
  cases c with
  | false => exact isTrue_or_nil e
  | true => exact e
theorem pw_or (ha : PT X a tA) (hb : PW X (.BoolOp .Or (b :: rest) pos) tB') : PW X (.BoolOp .Or (a :: b :: rest) pos) (tOr tA tB') := by
  intro wh pins s σ H Q I h
  refine isTrue_or (thn (ha pins s σ H _ I h) fun c s1 ⟨H1, I1, q1⟩ => ?_)
  cases c with
  | true => exact ⟨H1, I1, q1⟩
  | false => exact hb wh pins s1 σ H1 Q I1 q1
theorem pt_not (ha : PT X a tA) : PT X (.UnaryOp .Not a pos) (tNot tA) := by
  intro pins s σ H Q I h
  exact isTrue_not (ha pins s σ H (fun c H1 => Q (!c) H1) I h)
def tAndV (ta tb : TE) : TE := fun σ H Q => ta σ H fun x H1 => ∃ c, x = .bl c ∧ if c = true then tb σ H1 Q else Q (.bl false) H1
theorem pe_one {op} {t : TE} (h : PE X a t) : PE X (.BoolOp op [a] pos) t := fun pins s σ H Q I hw => BoolOp_one (h pins s σ H Q I hw)
theorem pe_and (ha : PE X a ta) (hb : PE X (.BoolOp .And (b :: rest) pos) tb) : PE X (.BoolOp .And (a :: b :: rest) pos) (tAndV ta tb) := by
  intro pins s σ H Q I h
  refine BoolOp_and (thn (ha pins s σ H _ I h) fun v s1 ⟨x, H1, I1, r1, q1⟩ => ?_)
  obtain ⟨c, rfl, q1⟩ := q1
  cases r1
  refine wpAny_truthy_bool ?_
  cases c with
  | true => exact hb pins s1 σ H1 Q I1 q1
  | false => exact ⟨.bl false, H1, I1, rfl, q1⟩
end
end L2
namespace L2
open PySem PySem.Spec PyProof.Rows
def SqL (K : PySem.W.Frag) (H : Hp) (a : Addr) (xs : List V) : Prop :=
  Rd H a (.lst xs) ∨
    ∃ (o : Obj) (its : Array Value) (n : Nat), K.lookup a = some o ∧ o.cls = .type "list" ∧ o.dict = none ∧ o.data = .seq its n ∧ its.size ≤ sizeLine ∧ Vals xs its.toList
def SqT (K : PySem.W.Frag) (H : Hp) (a : Addr) (xs : List V) : Prop :=
  Rd H a (.tup xs) ∨
    ∃ (o : Obj) (its : Array Value) (n : Nat), K.lookup a = some o ∧ o.cls = .type "tuple" ∧ o.data = .seq its n ∧ its.size ≤ sizeLine ∧ Vals xs its.toList
def absV : Value → Option V
  | .none => some .non
  | .bool b => some (.bl b)
  | .int i _ => some (.int i)
  | .str x _ => some (.str x)
  | .bytes b _ => some (.byt b)
  | .float b _ => some (.flt b)
  | .ref a => some (.ref a)
  | .type n => some (.ty n)
  | _ => none
theorem RelV.abs {x : V} {u : Value} (r : RelV x u) : absV u = some x := by
  cases x with
  | non => cases r; rfl
  | bl _ => cases r; rfl
  | int _ => obtain ⟨t, rfl⟩ := r; rfl
  | str _ => obtain ⟨t, rfl⟩ := r; rfl
  | byt _ => obtain ⟨t, rfl⟩ := r; rfl
  | flt _ => obtain ⟨t, rfl⟩ := r; rfl
  | ref _ => cases r; rfl
  | ty _ => cases r; rfl
theorem RelV.inj {x y : V} {u : Value} (r : RelV x u) (q : RelV y u) : x = y := Option.some.inj (r.abs.symm.trans q.abs)
theorem Vals.inj : ∀ {xs ys : List V} {us : List Value}, Vals xs us → Vals ys us → xs = ys
  | _, _, _, .nil, .nil => rfl
  | _, _, _, .cons r t, .cons r' t' => by rw [r.inj r', Vals.inj t t']
section
variable {X : Cx} {pins : List (Addr × Obj)} {σ : St} {H : Hp} {s : Shared} {a : Addr} {xs ys : List V}
theorem SqL.of {K : PySem.W.Frag} (h : H a = some (.lst xs)) : SqL K H a xs := .inl (.inl h)
theorem SqT.of {K : PySem.W.Frag} (h : H a = some (.tup xs)) : SqT K H a xs := .inl (.inl h)
theorem Inv.list (I : Inv X pins σ H s) (h : SqL X.K H a xs) : ∃ its : List Value, Vals xs its ∧ PlainL s.heap a its.toArray ∧ xs.length ≤ sizeLine := by
  rcases h with h | ⟨o, its, n, hk, hc, hd, hs, hz, r⟩
  · obtain ⟨z, its, n, r, e⟩ := h.ok I.hok
    exact ⟨its, r, ⟨_, n, e, rfl, rfl, rfl⟩, z⟩
  · refine ⟨its.toList, r, ⟨o, n, I.kIn a o hk, hc, hd, by simpa using hs⟩, ?_⟩
    have e := r.length
    simp only [Array.length_toList] at e
    omega
theorem Inv.tuple (I : Inv X pins σ H s) (h : SqT X.K H a xs) : ∃ its : List Value, Vals xs its ∧ IsTup s.heap a its.toArray ∧ xs.length ≤ sizeLine := by
  rcases h with h | ⟨o, its, n, hk, hc, hs, hz, r⟩
  · obtain ⟨z, its, r, p⟩ := h.ok I.hok
    exact ⟨its, r, p, z⟩
  · refine ⟨its.toList, r, ⟨o, I.kIn a o hk, hc, n, by simpa using hs⟩, ?_⟩
    have e := r.length
    simp only [Array.length_toList] at e
    omega
theorem Inv.list_inj (I : Inv X pins σ H s) (h : SqL X.K H a xs) (h' : SqL X.K H a ys) : xs = ys := by
  obtain ⟨its, r, ⟨o, n, e, _, _, d⟩, _⟩ := I.list h
  obtain ⟨its', r', ⟨o', n', e', _, _, d'⟩, _⟩ := I.list h'
  rw [e] at e'; cases e'
  rw [d] at d'
  injection d' with d1 _
  have : its = its' := by simpa using congrArg Array.toList d1
  subst this
  exact r.inj r'
theorem Inv.tuple_inj (I : Inv X pins σ H s) (h : SqT X.K H a xs) (h' : SqT X.K H a ys) : xs = ys := by
  obtain ⟨its, r, ⟨o, e, _, n, d⟩, _⟩ := I.tuple h
  obtain ⟨its', r', ⟨o', e', _, n', d'⟩, _⟩ := I.tuple h'
  rw [e] at e'; cases e'
  rw [d] at d'
  injection d' with d1 _
  have : its = its' := by simpa using congrArg Array.toList d1
  subst this
  exact r.inj r'
end
abbrev Cx.wish (X : Cx) (E : Value → Shared → Prop) : Cx := { X with xe := E }
abbrev Cx.nox (X : Cx) : Cx := X.wish fun _ _ => False
theorem Cx.Ok.wish {X : Cx} (ok : X.Ok) (E : Value → Shared → Prop) : (X.wish E).Ok :=
  ⟨ok.mod, ok.kind, ok.glob, ok.blt, ok.above, ok.inj, ok.has, ok.cab, ok.hd, ok.frames, ok.stk, ok.exf, ok.bs, ok.bsz, ok.noex, ok.exfs, ok.funs, ok.frf⟩
theorem Cx.Ok.unwish {X : Cx} {E : Value → Shared → Prop} (ok : (X.wish E).Ok) : X.Ok :=
  ⟨ok.mod, ok.kind, ok.glob, ok.blt, ok.above, ok.inj, ok.has, ok.cab, ok.hd, ok.frames, ok.stk, ok.exf, ok.bs, ok.bsz, ok.noex, ok.exfs, ok.funs, ok.frf⟩
section
variable {X : Cx} {pins : List (Addr × Obj)} {σ : St} {H : Hp} {s : Shared} {E : Value → Shared → Prop}
theorem Inv.wish (I : Inv X pins σ H s) (E : Value → Shared → Prop) : Inv (X.wish E) pins σ H s := ⟨I.ok.wish E, I.os, I.bare, I.base, I.loc, I.cell, I.free, I.freeC, I.pin, I.hok, I.len⟩
theorem Inv.unwish (I : Inv (X.wish E) pins σ H s) : Inv X pins σ H s := ⟨I.ok.unwish, I.os, I.bare, I.base, I.loc, I.cell, I.free, I.freeC, I.pin, I.hok, I.len⟩
theorem SP.unwish {D : Ends} {f : Flow} {s' : Shared} (h : SP (X.wish E) pins D f s') : SP X pins D f s' := by
  cases f with
  | next => obtain ⟨σ', H', I, q⟩ := h; exact ⟨σ', H', I.unwish, q⟩
  | brk => obtain ⟨σ', H', I, q⟩ := h; exact ⟨σ', H', I.unwish, q⟩
  | cont => obtain ⟨σ', H', I, q⟩ := h; exact ⟨σ', H', I.unwish, q⟩
  | ret u => obtain ⟨v, σ', H', I, r, q⟩ := h; exact ⟨v, σ', H', I.unwish, r, q⟩
theorem PSs.nox {st : List Stmt} {t : TS} (h : PSs X.nox st t) : PSs X st t := fun pins s σ H D I hw =>
  wpAny_mono (h pins s σ H D (I.wish _) hw) (fun _ _ q => q.unwish) fun _ _ z => False.elim z
end
section
variable {X : Cx} {st : Stmt} {rest : List Stmt} {t u : TS} {e : Expr} {te : TE} {pos : Pos}
def tNext : TS := fun D σ H => D.nx σ H
def tSeq (t u : TS) : TS := fun D σ H => t { D with nx := u D } σ H
theorem pss_nil : PSs X [] tNext := fun _ _ σ H _ I h => wpAny_execs_nil ⟨σ, H, I, h⟩
theorem pss_cons (h1 : PS X st t) (h2 : PSs X rest u) : PSs X (st :: rest) (tSeq t u) := by
  intro pins s σ H D I h
  refine wpAny_execs_cons (thn (h1 pins s σ H { D with nx := u D } I h) fun f s1 q => ?_)
  cases f with
  | next =>
    obtain ⟨σ', H', I', q⟩ := q
    exact h2 pins s1 σ' H' D I' q
  | ret v => exact q
  | brk => exact q
  | cont => exact q
theorem pss_one (h1 : PS X st t) : PSs X [st] t := by
  intro pins s σ H D I h
  refine wpAny_execs_cons (thn (h1 pins s σ H D I h) fun f s1 q => ?_)
  cases f with
  | next => exact wpAny_execs_nil q
  | ret v => exact q
  | brk => exact q
  | cont => exact q
theorem Inv.quiet {pins : List (Addr × Obj)} {σ : St} {H : Hp} {s : Shared} (I : Inv X pins σ H s) : interactive X.env = false := by simp [interactive, I.ok.kind]
def tDrop (te : TE) : TS := fun D σ H => te σ H fun _ H1 => D.nx σ H1
theorem ps_expr (he : PE X e te) (hs : swapsWith e none pos.line X.env = pure false := by rfl) : PS X (.Expr e pos) (tDrop te) := by
  intro pins s σ H D I h
  exact wpAny_Expr_any (thn (he pins s σ H _ I h) fun v s1 ⟨x, H1, I1, r1, q1⟩ => ⟨σ, H1, I1, q1⟩) I.quiet hs
def tRet (te : TE) : TS := fun D σ H => te σ H D.rt
theorem ps_ret (he : PE X e te) : PS X (.Return (some e) pos) (tRet te) := by
  intro pins s σ H D I h
  exact wpAny_Return_some (thn (he pins s σ H _ I h) fun v s1 ⟨x, H1, I1, r1, q1⟩ => ⟨x, σ, H1, I1, r1, q1⟩)
def tIfS (c : TT) (t u : TS) : TS := fun D σ H => c σ H fun b H1 => if b = true then t D σ H1 else u D σ H1
theorem ps_if {c : Expr} {a b : List Stmt} {tc : TT} (hc : PT X c tc) (ha : PSs X a t) (hb : PSs X b u) : PS X (.If c a b pos) (tIfS tc t u) := by
  intro pins s σ H D I h
  refine wpAny_If (thn (hc pins s σ H _ I h) fun d s1 ⟨H1, I1, q1⟩ => ?_)
  cases d with
  | true => exact ha pins s1 σ H1 D I1 q1
  | false => exact hb pins s1 σ H1 D I1 q1
end
abbrev TG := V → St → Hp → (St → Hp → Prop) → Prop
abbrev TGs := List V → St → Hp → (St → Hp → Prop) → Prop
def PG (X : Cx) (target : Expr) (t : TG) : Prop :=
  ∀ (pins : List (Addr × Obj)) (s : Shared) (σ : St) (H : Hp) (v : V) (u : Value) (Q : St → Hp → Prop), Inv X pins σ H s → RelV v u → t v σ H Q →
    wpAny (model X.prog X.w) X.A (assign target X.env u) (fun _ s' => ∃ σ' H', Inv X pins σ' H' s' ∧ Q σ' H') X.xe s
def PGs (X : Cx) (ts : List Expr) (t : TGs) : Prop :=
  ∀ (pins : List (Addr × Obj)) (s : Shared) (σ : St) (H : Hp) (vs : List V) (us : List Value) (Q : St → Hp → Prop), Inv X pins σ H s → Vals vs us → t vs σ H Q →
    wpAny (model X.prog X.w) X.A (assignInOrder ((assignEach ts X.env).map (·.2)) us) (fun _ s' => ∃ σ' H', Inv X pins σ' H' s' ∧ Q σ' H') X.xe s
section
variable {X : Cx} {pos : Pos}
def gName (i : Nat) : TG := fun v σ H Q => Q (σ.set i (some v)) H
theorem pg_name {i : Nat} {x : Str} (hN : X.N.Nodup) (hi : X.N[i]? = some x) (hx : Loc X.env.scope x) (hf : X.fn x = true ∨ X.env.scope.names.lookup x = some .local := by first | exact .inl rfl | exact .inr rfl | assumption) : PG X (.Name x pos) (gName i) := by
  intro pins s σ H v u Q I r h
  exact wpAny_assign_Name (store_ok I hN hi hx r (fun s' I' => ⟨_, H, I', h⟩) hf)
def gNil : TGs := fun vs σ H Q => vs = [] ∧ Q σ H
def gCons (t : TG) (u : TGs) : TGs := fun vs σ H Q => ∃ v r, vs = v :: r ∧ t v σ H fun σ' H' => u r σ' H' Q
theorem pgs_nil : PGs X [] gNil := by
  intro pins s σ H vs us Q I r h
  obtain ⟨e, h⟩ := h
  subst e
  cases r
  exact assignInOrder_nil ⟨σ, H, I, h⟩
theorem pgs_cons {e : Expr} {es : List Expr} {t : TG} {u : TGs} (h1 : PG X e t) (h2 : PGs X es u)
    (hs : (assignEach (e :: es) X.env).map (·.2) = assign e X.env :: (assignEach es X.env).map (·.2) := by rfl) : PGs X (e :: es) (gCons t u) := by
  intro pins s σ H vs us Q I r h
  obtain ⟨v, vr, e1, h⟩ := h
  subst e1
  cases r with
  | cons r rr =>
    rw [hs]
    refine assignInOrder_cons (thn (h1 pins s σ H _ _ _ I r h) fun _ s1 ⟨σ1, H1, I1, q1⟩ => ?_)
    exact h2 pins s1 σ1 H1 _ _ Q I1 rr q1
def gTup (K : PySem.W.Frag) (n : Nat) (t : TGs) : TG := fun v σ H Q => ∃ a xs, v = .ref a ∧ SqT K H a xs ∧ xs.length = n ∧ t xs σ H Q
theorem pg_tup {es : List Expr} {k : Nat} {t : TGs} {n : Nat} (hc : X.calm = true) (h : PGs X es t)
    (hn : (assignEach es X.env).length = n := by rfl) (hst : (assignEach es X.env).findIdx? (·.1) = none := by rfl) : PG X (.Tuple es k pos) (gTup X.K n t) := by
  intro pins s σ H v u Q I r hw
  obtain ⟨a, xs, e1, hq, hl, hw⟩ := hw
  subst e1
  cases r
  obtain ⟨its, rv, ht, hz⟩ := I.tuple hq
  refine assign_Tuple_tuple (I.ok.hd hc) ht (by simp [hn, ← hl, rv.length]) hst fun h' hx => ?_
  have I1 : Inv X pins σ H { s with heap := h' } := I.kept (t' := s.toks) fun b o e => hx b o (Nat.ne_of_lt (Heap.lt_size e)) e
  exact h pins _ σ H xs _ Q I1 (by simpa using rv) hw
def tAsg (te : TE) (g : TG) : TS := fun D σ H => te σ H fun x H1 => g x σ H1 D.nx
theorem ps_asg {tg e : Expr} {te : TE} {g : TG} (he : PE X e te) (hg : PG X tg g) (hs : swapsWithSole [tg] e pos.line X.env = pure false := by rfl) (hw : swappedStores [tg] e X.env = pure none := by rfl)
    (h1 : (assignEach [tg] X.env).map (·.2) = [assign tg X.env] := by rfl) : PS X (.Assign [tg] e pos) (tAsg te g) := by
  intro pins s σ H D I h
  refine wpAny_Assign_stores (thn (he pins s σ H _ I h) fun v s1 ⟨x, H1, I1, r1, q1⟩ => ?_) hs hw
  rw [h1]
  exact thn (hg pins s1 σ H1 x v _ I1 r1 q1) fun _ s2 q => q
theorem ps_set {i : Nat} {x : Str} {e : Expr} {te : TE} {pos' : Pos} (hN : X.N.Nodup) (hi : X.N[i]? = some x) (hx : Loc X.env.scope x) (he : PE X e te) (hs : swapsWith e (some (.Name x pos')) pos.line X.env = pure false := by rfl) (hf : X.fn x = true ∨ X.env.scope.names.lookup x = some .local := by first | exact .inl rfl | exact .inr rfl | assumption) :
    PS X (.Assign [.Name x pos'] e pos) (tAsg te (gName i)) := by
  intro pins s σ H D I h
  refine wpAny_Assign_Name (thn (he pins s σ H _ I h) fun v s1 ⟨y, H1, I1, r1, q1⟩ => ?_) hs
  exact store_ok I1 hN hi hx r1 (fun s2 I2 => ⟨_, H1, I2, q1⟩) hf
end
section
variable {X : Cx} {pos : Pos}
def tWhile (c : TT) (tb : TS) : TS := fun D σ H => ∃ W : Nat → St → Hp → Prop, (∃ m, W m σ H) ∧ ∀ m σ H, W m σ H →
  c σ H fun b H1 => if b = true then ∃ N : St → Hp → Prop, (∀ σ' H', N σ' H' → ∃ m', m' < m ∧ W m' σ' H') ∧ tb { D with nx := N, ct := N, bk := D.nx } σ H1 else D.nx σ H1
theorem ps_while {c : Expr} {body : List Stmt} {tc : TT} {tb : TS} (hp : PassesOwn (model X.prog X.w) X.A X.env X.xe) (hc : PT X c tc) (hb : PSs X body tb) : PS X (.While c body [] pos) (tWhile tc tb) := by
  intro pins s σ H D I h
  obtain ⟨W, ⟨m0, w0⟩, turn⟩ := h
  refine wpAny_While (codeAny_whileLoop (fun n s' => ∃ σ' H', Inv X pins σ' H' s' ∧ W n σ' H') ?_ m0 ⟨σ, H, I, w0⟩)
  rintro n s1 ⟨σ1, H1, I1, w1⟩
  refine wpAny_passesOwn hp (thn (hc pins s1 σ1 H1 _ I1 (turn n σ1 H1 w1)) fun b s2 ⟨H2, I2, q2⟩ => ?_)
  cases b with
  | true =>
    obtain ⟨N, hN, q2⟩ := q2
    rw [if_pos rfl]
    refine wpAny_passesOwn hp (thn (hb pins s2 σ1 H2 _ I2 q2) fun f s3 q3 => ?_)
    cases f with
    | next =>
      obtain ⟨σ3, H3, I3, n3⟩ := q3
      obtain ⟨m', hm, w3⟩ := hN σ3 H3 n3
      exact ⟨m', hm, σ3, H3, I3, w3⟩
    | cont =>
      obtain ⟨σ3, H3, I3, n3⟩ := q3
      obtain ⟨m', hm, w3⟩ := hN σ3 H3 n3
      exact ⟨m', hm, σ3, H3, I3, w3⟩
    | brk => exact q3
    | ret v => exact q3
  | false =>
    rw [if_neg Bool.false_ne_true]
    exact wpAny_execs_nil ⟨σ1, H2, I2, q2⟩
end
structure It where
  go : Nat → Hp → Prop
  yld : Nat → Hp → V → Hp → Prop
  stop : Nat → Hp → Prop
def FpOk (X : Cx) (pins : List (Addr × Obj)) (H : Hp) (b : Addr) : Prop :=
  H b = none ∧ b ≠ X.env.locals ∧ b ∉ X.fs ∧ (b ∈ X.ex ∨ X.s₀.heap.objs.size ≤ b) ∧ (∀ x c, X.env.cells.lookup x = some c → c ≠ b) ∧ ∀ p ∈ X.pn ++ pins, p.1 ≠ b
theorem Inv.fpOk {X : Cx} {pins : List (Addr × Obj)} {σ : St} {H H' : Hp} {s : Shared} {b : Addr} (I : Inv X pins σ H s) (hb : s.heap.objs.size ≤ b) (hn : H' b = none) : FpOk X pins H' b := by
  refine ⟨hn, Nat.ne_of_gt (Nat.lt_of_lt_of_le I.lt hb), I.nofs hb, .inr (Nat.le_trans I.sz hb), fun x c e z => ?_, fun p hp z => ?_⟩
  · obtain ⟨v, q⟩ := I.cell x c e
    exact absurd (Nat.lt_of_lt_of_le q.lt (by rw [z]; exact hb)) (Nat.lt_irrefl _)
  · exact absurd (Nat.lt_of_lt_of_le (Heap.lt_size (I.pin p hp).1) (by rw [z]; exact hb)) (Nat.lt_irrefl _)
structure Turn (P : Program) (w : World) (K : PySem.W.Frag) (tg : Expr) (J : It) (fp : List Addr) (it : Addr) (tn : Nat → Heap → Prop) : Prop where
  mem : it ∈ fp
  obj : ∀ i h, tn i h → ∀ b ∈ fp, ∃ o, h.get? b = some o ∧ ∀ v, o.data ≠ .cell v
  keep : ∀ i h h', tn i h → (∀ b ∈ fp, ∀ o, h.get? b = some o → h'.get? b = some o) → tn i h'
  item : ∀ (X : Cx), X.prog = P → X.w = w → X.K = K → X.calm = true → ∀ (i : Nat) (pins : List (Addr × Obj)) (s : Shared) (σ : St) (H : Hp) (E : Value → Shared → Prop), Inv X pins σ H s → (∀ b ∈ fp, FpOk X pins H b) → tn i s.heap → J.go i H →
    wpAny (model P w) X.A (pyNext (.ref it)) (fun r s1 => ∃ u, r = some u ∧
      wpAny (model P w) X.A (letOwnedTupleGo tg (.ref it) u) (fun _ s2 => ∃ x H', Inv X pins σ H' s2 ∧ RelV x u ∧ J.yld i H x H' ∧ tn (i + 1) s2.heap ∧ ∀ b ∈ fp, H' b = none) E s1) E s
  done : ∀ (X : Cx), X.prog = P → X.w = w → X.K = K → X.calm = true → ∀ (i : Nat) (pins : List (Addr × Obj)) (s : Shared) (σ : St) (H : Hp) (E : Value → Shared → Prop), Inv X pins σ H s → (∀ b ∈ fp, FpOk X pins H b) → tn i s.heap → J.stop i H →
    wpAny (model P w) X.A (pyNext (.ref it)) (fun r s1 => r = none ∧ Inv X pins σ H s1) E s
  self : ∀ (A : Around) (i : Nat) (s : Shared) (Q : Value → Shared → Prop) (E : Value → Shared → Prop), tn i s.heap → Q (.ref it) s → wpAny (model P w) A (pyIter (.ref it)) Q E s
abbrev TI := St → Hp → (It → Hp → Prop) → Prop
def PIE (X : Cx) (pins : List (Addr × Obj)) (σ : St) (tg : Expr) (R : It → Hp → Prop) (itv : Value) (s2 : Shared) : Prop :=
  ∃ (it : Addr) (fp : List Addr) (tn : Nat → Heap → Prop) (J : It) (H' : Hp), itv = .ref it ∧ Inv X pins σ H' s2 ∧ Turn X.prog X.w X.K tg J fp it tn ∧ tn 0 s2.heap ∧ (∀ b ∈ fp, FpOk X pins H' b) ∧ R J H'
def PI (X : Cx) (tg iter : Expr) (wi : TI) : Prop :=
  ∀ (pins : List (Addr × Obj)) (s : Shared) (σ : St) (H : Hp) (R : It → Hp → Prop), Inv X pins σ H s → wi σ H R →
    wpAny (model X.prog X.w) X.A (eval iter X.env) (fun v s1 => wpAny (model X.prog X.w) X.A (pyIter v) (PIE X pins σ tg R) X.xe s1) X.xe s
theorem go_of {M : Model} {A : Around} {E : Value → Shared → Prop} {s : Shared} {tg : Expr} {it : Addr} {u : Value} {o : Obj} {n : String} {vs : Array Value} {Q : Unit → Shared → Prop} (ho : s.heap.get? it = some o) (hc : o.cls = .type n) (hd : o.data = .fields vs)
    (hn : ["enumerate", "zip", "dict_itemiterator", "dict_reverseitemiterator", "odict_iterator", "itertools.zip_longest", "itertools.pairwise"].contains n = false) (hQ : Q () s) : wpAny M A (letOwnedTupleGo tg (.ref it) u) Q E s := by
  unfold letOwnedTupleGo
  cases tg <;> first
    | exact wpAny_pure hQ
    | (cases u <;> first
        | exact wpAny_pure hQ
        | (refine wpAny_bind (wpAny_load ho ?_)
           rw [hc, hd]
           show wpAny M A (if (["enumerate", "zip", "dict_itemiterator", "dict_reverseitemiterator", "odict_iterator", "itertools.zip_longest", "itertools.pairwise"].contains n && vs[0]? == some (rawInt _)) = true then _ else _) Q E s
           rw [if_neg (by intro h; rw [hn, Bool.false_and] at h; cases h)]
           exact wpAny_pure hQ))
def Itl (K : PySem.W.Frag) (a : Addr) : It :=
  ⟨fun i H => ∃ xs x, SqL K H a xs ∧ xs[i]? = some x, fun i H x H' => H' = H ∧ ∀ xs, SqL K H a xs → xs[i]? = some x, fun i H => ∃ xs, SqL K H a xs ∧ xs.length ≤ i⟩
def Itr (lo : Int) (n : Nat) : It := ⟨fun i _ => i < n, fun i H x H' => H' = H ∧ x = .int (lo + i), fun i _ => n ≤ i⟩
theorem turn_list {P : Program} {w : World} {K : PySem.W.Frag} {tg : Expr} (a it : Addr) : Turn P w K tg (Itl K a) [it] it (fun i h => h.IsListIter it a i) where
  mem := by simp
  obj := fun i h st b hb => by
    have e : b = it := by simpa using hb
    subst e
    obtain ⟨o, e, c, d⟩ := st
    exact ⟨o, e, fun v z => by rw [d] at z; cases z⟩
  keep := fun i h h' st k => st.at fun o e => k it (by simp) o e
  item := by
    intro X hP hw hK hc i pins s σ H E I hf st hg
    subst hP hw hK
    obtain ⟨xs, x, hq, hx⟩ := hg
    obtain ⟨its, rv, p, hz⟩ := I.list hq
    obtain ⟨u, hu, ru⟩ := rv.get hx
    obtain ⟨f0, f1, f2, f3, f4, f5⟩ := hf it (by simp)
    refine wpAny_pyNext_list_item st p.isList (x := u) (by simpa using hu) fun h' st' sb => ?_
    have I1 : Inv X pins σ H { s with heap := h' } := I.turned (t' := s.toks) (fun b o hb e => (sb.2 b hb).trans e) f0 f1 f3 f4 f5
    obtain ⟨o, e, c, d⟩ := id st'
    exact ⟨u, rfl, go_of (s := { s with heap := h' }) e c d (by decide) ⟨x, H, I1, ru, ⟨rfl, fun ys hy => by rw [I.list_inj hy hq]; exact hx⟩, st', fun b hb => (hf b hb).1⟩⟩
  done := by
    intro X hP hw hK hc i pins s σ H E I hf st hg
    subst hP hw hK
    obtain ⟨xs, hq, hx⟩ := hg
    obtain ⟨its, rv, p, hz⟩ := I.list hq
    obtain ⟨f0, f1, f2, f3, f4, f5⟩ := hf it (by simp)
    have hl := rv.length
    exact wpAny_pyNext_list_end (I.ok.hd hc) st p.isList (by simp; omega) fun h' eb => ⟨rfl, I.turned (t' := s.toks) (fun b o hb e => eb b o hb e) f0 f1 f3 f4 f5⟩
  self := fun _ _ _ _ _ st h => wpAny_pyIter_listiter st h
theorem turn_range {P : Program} {w : World} {K : PySem.W.Frag} {tg : Expr} (it : Addr) (lo : Int) (n : Nat) : Turn P w K tg (Itr lo n) [it] it (fun i h => IsRangeIter h it (lo + (i : Nat) * 1) ((n : Int) - (i : Nat)) 1) where
  mem := by simp
  obj := fun i h st b hb => by
    have e : b = it := by simpa using hb
    subst e
    exact ⟨_, st, fun v z => by
      have z' : Data.fields _ = Data.cell v := z
      cases z'⟩
  keep := fun i h h' st k => k it (by simp) _ st
  item := by
    intro X hP hw hK hc i pins s σ H E I hf st hg
    subst hP hw hK
    obtain ⟨f0, f1, f2, f3, f4, f5⟩ := hf it (by simp)
    have W := Walks.range (prog := X.prog) (w := X.w) (I.ok.hd hc) it lo 1 n
    refine W.item i s _ _ hg st fun v h' tk hv st' kk => ?_
    obtain ⟨t, rfl⟩ := hv
    have I1 : Inv X pins σ H { s with heap := h', toks := tk } := I.turned (fun b o hb e => kk b o (by simpa using hb) e) f0 f1 f3 f4 f5
    refine ⟨_, rfl, go_of (s := { s with heap := h', toks := tk }) (n := "range_iterator") st' rfl rfl (by decide) ⟨.int (lo + i), H, I1, ⟨t, ?_⟩, ⟨rfl, rfl⟩, st', fun b hb => (hf b hb).1⟩⟩
    rw [Int.mul_one]
  done := by
    intro X hP hw hK hc i pins s σ H E I hf st hg
    subst hP hw hK
    obtain ⟨f0, f1, f2, f3, f4, f5⟩ := hf it (by simp)
    exact wpAny_pyNext_range_end (I.ok.hd hc) st (by have : n ≤ i := hg; omega) fun h' eb => ⟨rfl, I.turned (t' := s.toks) (fun b o hb e => eb b o hb e) f0 f1 f3 f4 f5⟩
  self := fun _ _ _ _ _ st h => wpAny_pyIter_rangeiter st h
end L2
namespace L2
open PySem PySem.Spec PyProof.Rows
section
variable {X : Cx} {tg : Expr}
def iList (K : PySem.W.Frag) (tl : TE) : TI := fun σ H R => tl σ H fun x H1 => ∃ a, x = .ref a ∧ (∃ xs, SqL K H1 a xs) ∧ R (Itl K a) H1
theorem pi_list {l : Expr} {tl : TE} (hl : PE X l tl) : PI X tg l (iList X.K tl) := by
  intro pins s σ H R I h
  refine thn (hl pins s σ H _ I h) fun v s1 ⟨x, H1, I1, r1, q1⟩ => ?_
  obtain ⟨a, e, ⟨xs, hq⟩, q⟩ := q1
  subst e
  cases r1
  obtain ⟨its, rv, p, hz⟩ := I1.list hq
  refine wpAny_pyIter_list p.isList ?_
  refine ⟨s1.heap.objs.size, [s1.heap.objs.size], _, _, H1, rfl, I1.kept (t' := s1.toks) fun b o e => Heap.get?_push_of_some _ e, turn_list a _, ⟨_, Heap.get?_push_size _ rfl, rfl, rfl⟩, fun b hb => ?_, q⟩
  have e : b = s1.heap.objs.size := by simpa using hb
  subst e
  exact I1.fpOk (Nat.le_refl _) (I1.hok.fresh (Nat.le_refl _))
theorem range_it {pins : List (Addr × Obj)} {σ : St} {H : Hp} {s : Shared} {R : It → Hp → Prop} {E : Value → Shared → Prop} {lo hi : Int} {t u v : Tok} {tk : Nat} (I : Inv X pins σ H s) (h1 : -(2 ^ 62) ≤ lo) (h2 : lo < 2 ^ 62) (h3 : -(2 ^ 62) ≤ hi) (h4 : hi < 2 ^ 62)
    (q : R (Itr lo (hi - lo).toNat) H) : wpAny (model X.prog X.w) X.A (pyIter (.ref s.heap.objs.size)) (PIE X pins σ tg R) E { s with heap := s.heap.push { cls := .type "range", data := .fields #[.int lo t, .int hi u, .int 1 v] }, toks := tk } := by
  refine wpAny_pyIter_range (IsRange.new ..) (small_one h1 h2 h3 h4) ?_
  have I1 : Inv X pins σ H { s with heap := s.heap.push { cls := .type "range", data := .fields #[.int lo t, .int hi u, .int 1 v] }, toks := tk } := I.kept fun b o e => Heap.get?_push_of_some _ e
  refine ⟨(s.heap.push { cls := .type "range", data := .fields #[.int lo t, .int hi u, .int 1 v] }).objs.size, [(s.heap.push { cls := .type "range", data := .fields #[.int lo t, .int hi u, .int 1 v] }).objs.size], _, _, H, rfl,
    I1.kept (t' := tk) fun b o e => Heap.get?_push_of_some _ e, turn_range _ lo (hi - lo).toNat, ?_, fun b hb => ?_, q⟩
  · have e1 : lo + ((0 : Nat) : Int) * 1 = lo := by simp
    have e2 : (((hi - lo).toNat : Nat) : Int) - ((0 : Nat) : Int) = Builtin.Range.rangeSize lo hi 1 := by rw [rangeSize_one]; split <;> omega
    show IsRangeIter _ _ (lo + ((0 : Nat) : Int) * 1) ((((hi - lo).toNat : Nat) : Int) - ((0 : Nat) : Int)) 1
    rw [e1, e2]
    exact Heap.get?_push_size _ rfl
  · have e : b = (s.heap.push { cls := .type "range", data := .fields #[.int lo t, .int hi u, .int 1 v] }).objs.size := by simpa using hb
    subst e
    exact I1.fpOk (Nat.le_refl _) (I1.hok.fresh (Nat.le_refl _))
def iRng1 (ta : TA) : TI := fun σ H R => ta σ H fun vs H1 => ∃ j : Int, vs = [.int j] ∧ -(2 ^ 62) ≤ j ∧ j < 2 ^ 62 ∧ R (Itr 0 j.toNat) H1
def iRng2 (ta : TA) : TI := fun σ H R => ta σ H fun vs H1 => ∃ i j : Int, vs = [.int i, .int j] ∧ (-(2 ^ 62) ≤ i ∧ i < 2 ^ 62 ∧ -(2 ^ 62) ≤ j ∧ j < 2 ^ 62) ∧ R (Itr i (j - i).toNat) H1
theorem pi_range1 {a : Expr} {ta : TA} {p pos : Pos} (hg : Gl X "range") (hm : X.mg "range" = none) (ha : PA X [a] ta) (hs : starEach [a] X.env = [(false, eval a X.env)] := by rfl) : PI X tg (.Call (.Name "range" p) [a] [] pos) (iRng1 ta) := by
  intro pins s σ H R I h
  refine Call_ (ld_blt I hg hm boot_range (PyProof.Rows.callWith_type1 (thn (ha pos pins s σ H _ I h) fun us s1 ⟨vs, H1, I1, r1, q1⟩ => ?_) hs rfl))
  obtain ⟨j, e, q1, q2, q⟩ := q1
  subst e
  cases r1 with
  | cons r rr =>
    cases rr
    obtain ⟨t, rfl⟩ := r
    exact call_range_1 (range_it I1 (by omega) (by omega) q1 q2 (by simpa using q))
theorem pi_range2 {a b : Expr} {ta : TA} {p pos : Pos} (hg : Gl X "range") (hm : X.mg "range" = none) (ha : PA X [a, b] ta) (hs : starEach [a, b] X.env = [(false, eval a X.env), (false, eval b X.env)] := by rfl) (hs2 : starEach [b] X.env = [(false, eval b X.env)] := by rfl) :
    PI X tg (.Call (.Name "range" p) [a, b] [] pos) (iRng2 ta) := by
  intro pins s σ H R I h
  refine Call_ (ld_blt I hg hm boot_range (PyProof.Rows.callWith_type1 (thn (ha pos pins s σ H _ I h) fun us s1 ⟨vs, H1, I1, r1, q1⟩ => ?_) (by rw [hs, hs2]) (by rw [hs2]; rfl)))
  obtain ⟨i, j, e, ⟨q1, q2, q3, q4⟩, q⟩ := q1
  subst e
  cases r1 with
  | cons r rr =>
    cases rr with
    | cons r' rr =>
      cases rr
      obtain ⟨t, rfl⟩ := r
      obtain ⟨t', rfl⟩ := r'
      exact call_range_2 (range_it I1 q1 q2 q3 q4 q)
def tFor (wi : TI) (g : TG) (tb : TS) : TS := fun D σ H => wi σ H fun J H1 => ∃ W : Nat → Nat → St → Hp → Prop, (∃ m, W 0 m σ H1) ∧ ∀ i m σ H, W i m σ H →
  (J.stop i H ∧ D.nx σ H) ∨ (J.go i H ∧ ∃ N : St → Hp → Prop, (∀ σ' H', N σ' H' → ∃ m', m' < m ∧ W (i + 1) m' σ' H') ∧ ∀ x H', J.yld i H x H' → g x σ H' fun σ2 H2 => tb { D with nx := N, ct := N, bk := D.nx } σ2 H2)
def pinsAt (fp : List Addr) (h : Heap) : List (Addr × Obj) := fp.filterMap fun b => (h.get? b).map fun o => (b, o)
theorem mem_pinsAt {fp : List Addr} {h : Heap} {b : Addr} {o : Obj} (hb : b ∈ fp) (e : h.get? b = some o) : (b, o) ∈ pinsAt fp h := List.mem_filterMap.mpr ⟨b, hb, by rw [e]; rfl⟩
theorem of_pinsAt {fp : List Addr} {h : Heap} {p : Addr × Obj} (hp : p ∈ pinsAt fp h) : p.1 ∈ fp ∧ h.get? p.1 = some p.2 := by
  obtain ⟨b, hb, e⟩ := List.mem_filterMap.mp hp
  cases q : h.get? b with
  | none => rw [q] at e; cases e
  | some o =>
    rw [q] at e
    have e' : (b, o) = p := Option.some.inj e
    subst e'
    exact ⟨hb, q⟩
theorem Inv.pinned {pins : List (Addr × Obj)} {σ : St} {H : Hp} {s : Shared} {fp : List Addr} (I : Inv X pins σ H s) (hf : ∀ b ∈ fp, FpOk X pins H b) (ho : ∀ b ∈ fp, ∃ o, s.heap.get? b = some o ∧ ∀ v, o.data ≠ .cell v) : Inv X (pins ++ pinsAt fp s.heap) σ H s :=
  I.pins_of fun p hp => (List.mem_append.mp hp).elim (fun z => I.pin p (List.mem_append_right _ z)) fun z => by
    obtain ⟨hb, e⟩ := of_pinsAt z
    obtain ⟨f0, f1, f2, _⟩ := hf p.1 hb
    obtain ⟨o, e', d⟩ := ho p.1 hb
    rw [e] at e'; cases e'
    exact ⟨e, f0, f1, f2, d⟩
theorem Inv.unpinned {pins pl : List (Addr × Obj)} {σ : St} {H : Hp} {s : Shared} (I : Inv X (pins ++ pl) σ H s) : Inv X pins σ H s := I.pins_of fun p hp => I.pin p (List.mem_append_right _ (List.mem_append_left _ hp))
theorem ps_for {iter : Expr} {body : List Stmt} {wi : TI} {g : TG} {tb : TS} {pos : Pos} (hp : PassesOwn (model X.prog X.w) X.A X.env X.xe) (hc : X.calm = true) (hi : PI X tg iter wi) (hg : PG X tg g) (hb : PSs X body tb)
    (hs : ∀ x, foldedSetIterable iter X.env x = pure x := by intro _; rfl) : PS X (.For tg iter body [] pos) (tFor wi g tb) := by
  intro pins s σ H D I h
  refine wpAny_For (thn (hi pins s σ H _ I h) fun v s1 h1 => thn h1 fun itv s2 h2 => ?_) hs
  obtain ⟨it, fp, tn, J, H2, e, I2, T, st2, f2, W, ⟨m0, w0⟩, turn⟩ := h2
  subst e
  -- what stays true of the iterator's objects through the loop
  have stat : ∀ {H' : Hp}, (∀ b ∈ fp, H' b = none) → ∀ b ∈ fp, FpOk X pins H' b := fun hn b hb => ⟨hn b hb, (f2 b hb).2⟩
  refine codeAny_forLoop_any (fun n s' => ∃ i σ' H', Inv X pins σ' H' s' ∧ tn i s'.heap ∧ (∀ b ∈ fp, H' b = none) ∧ W i n σ' H') ?_ m0 ⟨0, σ, H2, I2, st2, fun b hb => (f2 b hb).1, w0⟩
  rintro n s3 ⟨i, σ3, H3, I3, st3, fr3, w3⟩
  rcases turn i n σ3 H3 w3 with ⟨stop, qn⟩ | ⟨go, N, hN, step⟩
  · refine wpAny_passesOwn hp (thn (T.done X rfl rfl rfl hc i pins s3 σ3 H3 X.xe I3 (stat fr3) st3 stop) fun r s4 ⟨hr, I4⟩ => ?_)
    subst hr
    exact wpAny_execs_nil ⟨σ3, H3, I4, qn⟩
  · refine wpAny_passesOwn hp (thn (T.item X rfl rfl rfl hc i pins s3 σ3 H3 X.xe I3 (stat fr3) st3 go) fun r s4 ⟨u, hr, h4⟩ => ?_)
    subst hr
    refine wpAny_passesOwn hp (thn h4 fun _ s5 ⟨x, H5, I5, r5, y5, st5, fr5⟩ => ?_)
    have I5' := I5.pinned (stat fr5) (T.obj _ _ st5)
    refine wpAny_passesOwn hp (thn (hg _ s5 σ3 H5 x u _ I5' r5 (step x H5 y5)) fun _ s6 ⟨σ6, H6, I6, q6⟩ => ?_)
    refine wpAny_passesOwn hp (thn (hb _ s6 σ6 H6 _ I6 q6) fun f s7 q7 => ?_)
    have again : ∀ {σ7 : St} {H7 : Hp}, Inv X (pins ++ pinsAt fp s5.heap) σ7 H7 s7 → N σ7 H7 → ∃ m, m < n ∧ ∃ i σ' H', Inv X pins σ' H' s7 ∧ tn i s7.heap ∧ (∀ b ∈ fp, H' b = none) ∧ W i m σ' H' := fun {σ7 H7} I7 n7 => by
      obtain ⟨m', hm, w7⟩ := hN σ7 H7 n7
      refine ⟨m', hm, i + 1, σ7, H7, I7.unpinned, T.keep _ _ _ st5 fun b hb o e => (I7.pin (b, o) (List.mem_append_right _ (List.mem_append_right _ (mem_pinsAt hb e)))).1, fun b hb => ?_, w7⟩
      obtain ⟨o, e, d⟩ := T.obj _ _ st5 b hb
      exact (I7.pin (b, o) (List.mem_append_right _ (List.mem_append_right _ (mem_pinsAt hb e)))).2.1
    cases f with
    | next => obtain ⟨σ7, H7, I7, n7⟩ := q7; exact again I7 n7
    | cont => obtain ⟨σ7, H7, I7, n7⟩ := q7; exact again I7 n7
    | brk => obtain ⟨σ7, H7, I7, q7⟩ := q7; exact ⟨σ7, H7, I7.unpinned, q7⟩
    | ret v => obtain ⟨x7, σ7, H7, I7, r7, q7⟩ := q7; exact ⟨x7, σ7, H7, I7.unpinned, r7, q7⟩
end
theorem for_list {K : PySem.W.Frag} {a : Addr} {xs : List V} {g : TG} {tb : TS} {D : Ends} {σ : St} {H : Hp} (Pv : Nat → St → Hp → Prop) (h0 : Pv 0 σ H) (hl : ∀ i σ H, i ≤ xs.length → Pv i σ H → SqL K H a xs)
    (hs : ∀ i x σ H, xs[i]? = some x → Pv i σ H → g x σ H fun σ2 H2 => tb { D with nx := Pv (i + 1), ct := Pv (i + 1), bk := D.nx } σ2 H2) (hd : ∀ σ H, Pv xs.length σ H → D.nx σ H) :
    ∃ W : Nat → Nat → St → Hp → Prop, (∃ m, W 0 m σ H) ∧ ∀ i m σ H, W i m σ H →
      ((Itl K a).stop i H ∧ D.nx σ H) ∨ ((Itl K a).go i H ∧ ∃ N : St → Hp → Prop, (∀ σ' H', N σ' H' → ∃ m', m' < m ∧ W (i + 1) m' σ' H') ∧ ∀ x H', (Itl K a).yld i H x H' → g x σ H' fun σ2 H2 => tb { D with nx := N, ct := N, bk := D.nx } σ2 H2) := by
  refine ⟨fun i m σ H => m = xs.length - i ∧ i ≤ xs.length ∧ Pv i σ H, ⟨xs.length, by simp, Nat.zero_le _, h0⟩, ?_⟩
  rintro i m σ H ⟨rfl, hi, p⟩
  have q := hl i σ H hi p
  by_cases hlt : i < xs.length
  · refine .inr ⟨⟨xs, xs[i], q, by simp [hlt]⟩, Pv (i + 1), fun σ' H' p' => ⟨xs.length - (i + 1), by omega, rfl, hlt, p'⟩, fun x H' y => ?_⟩
    obtain ⟨e, y⟩ := y
    subst e
    exact hs i x σ _ (y xs q) p
  · have e : i = xs.length := by omega
    subst e
    exact .inl ⟨⟨xs, q, Nat.le_refl _⟩, hd σ H p⟩
theorem for_range {lo : Int} {n : Nat} {g : TG} {tb : TS} {D : Ends} {σ : St} {H : Hp} (Pv : Nat → St → Hp → Prop) (h0 : Pv 0 σ H)
    (hs : ∀ i σ H, i < n → Pv i σ H → g (.int (lo + i)) σ H fun σ2 H2 => tb { D with nx := Pv (i + 1), ct := Pv (i + 1), bk := D.nx } σ2 H2) (hd : ∀ σ H, Pv n σ H → D.nx σ H) :
    ∃ W : Nat → Nat → St → Hp → Prop, (∃ m, W 0 m σ H) ∧ ∀ i m σ H, W i m σ H →
      ((Itr lo n).stop i H ∧ D.nx σ H) ∨ ((Itr lo n).go i H ∧ ∃ N : St → Hp → Prop, (∀ σ' H', N σ' H' → ∃ m', m' < m ∧ W (i + 1) m' σ' H') ∧ ∀ x H', (Itr lo n).yld i H x H' → g x σ H' fun σ2 H2 => tb { D with nx := N, ct := N, bk := D.nx } σ2 H2) := by
  refine ⟨fun i m σ H => m = n - i ∧ i ≤ n ∧ Pv i σ H, ⟨n, by simp, Nat.zero_le _, h0⟩, ?_⟩
  rintro i m σ H ⟨rfl, hi, p⟩
  by_cases hlt : i < n
  · refine .inr ⟨hlt, Pv (i + 1), fun σ' H' p' => ⟨n - (i + 1), by omega, rfl, hlt, p'⟩, fun x H' y => ?_⟩
    obtain ⟨e, y⟩ := y
    subst e y
    exact hs i σ _ hlt p
  · have e : i = n := by omega
    subst e
    exact .inl ⟨Nat.le_refl _, hd σ H p⟩
end L2
namespace L2
open PySem PySem.Spec PyProof.Rows
abbrev R2 := V → V → Hp → VK → Prop
def OpR (X : Cx) (f : Value → Value → Sem Value) (r : R2) : Prop :=
  ∀ (pins : List (Addr × Obj)) (s : Shared) (σ : St) (H : Hp) (x y : V) (v u : Value) (Q : VK), Inv X pins σ H s → RelV x v → RelV y u → r x y H Q →
    wpAny (model X.prog X.w) X.A (f v u) (EP X pins σ Q) X.xe s
def UnR (X : Cx) (f : Value → Sem Value) (r : V → Hp → VK → Prop) : Prop :=
  ∀ (pins : List (Addr × Obj)) (s : Shared) (σ : St) (H : Hp) (x : V) (v : Value) (Q : VK), Inv X pins σ H s → RelV x v → r x H Q →
    wpAny (model X.prog X.w) X.A (f v) (EP X pins σ Q) X.xe s
def CallR (X : Cx) (f : Value) (r : List V → Hp → VK → Prop) : Prop :=
  ∀ (pins : List (Addr × Obj)) (s : Shared) (σ : St) (H : Hp) (xs : List V) (us : List Value) (Q : VK), Inv X pins σ H s → Vals xs us → r xs H Q →
    wpAny (model X.prog X.w) X.A (call f us) (EP X pins σ Q) X.xe s
def tOp (r : R2) (ta tb : TE) : TE := fun σ H Q => ta σ H fun x H1 => tb σ H1 fun y H2 => r x y H2 Q
def tUn (r : V → Hp → VK → Prop) (ta : TE) : TE := fun σ H Q => ta σ H fun x H1 => r x H1 Q
def rI (C : Int → Int → Prop) (g : Int → Int → V) : R2 := fun x y H Q => ∃ i j, x = .int i ∧ y = .int j ∧ C i j ∧ Q (g i j) H
def rI0 (g : Int → Int → V) : R2 := fun x y H Q => ∃ i j, x = .int i ∧ y = .int j ∧ Q (g i j) H
def rU (g : Int → V) : V → Hp → VK → Prop := fun x H Q => ∃ i, x = .int i ∧ Q (g i) H
section
variable {X : Cx} {a b c : Expr} {ta tb tc : TE} {pos : Pos}
theorem binT (ha : PE X a ta) (hb : PE X b tb) {pins : List (Addr × Obj)} {s : Shared} {σ : St} {H : Hp} {R : V → V → Hp → Prop} (I : Inv X pins σ H s)
    (h : ta σ H fun x H1 => tb σ H1 fun y H2 => R x y H2) {Q : Value → Shared → Prop} {f : Value → Value → Sem Value}
    (hf : ∀ v u s2 x y H2, Inv X pins σ H2 s2 → RelV x v → RelV y u → R x y H2 → wpAny (model X.prog X.w) X.A (f v u) Q X.xe s2) :
    wpAny (model X.prog X.w) X.A (eval a X.env) (fun v s₁ => wpAny (model X.prog X.w) X.A (eval b X.env) (fun u s₂ => wpAny (model X.prog X.w) X.A (f v u) Q X.xe s₂) X.xe s₁) X.xe s := by
  refine thn (ha pins s σ H _ I h) fun v s1 ⟨x, H1, I1, r1, q1⟩ => ?_
  refine thn (hb pins s1 σ H1 _ I1 q1) fun u s2 ⟨y, H2, I2, r2, q2⟩ => ?_
  exact hf v u s2 x y H2 I2 r1 r2 q2
theorem pe_op {op : Operator} {r : R2} (ho : OpR X (binaryOp op) r) (ha : PE X a ta) (hb : PE X b tb) : PE X (.BinOp a op b pos) (tOp r ta tb) := by
  intro pins s σ H Q I h
  exact wpAny_BinOp (binT ha hb I h fun v u s2 x y H2 I2 rx ry q => ho pins s2 σ H2 x y v u Q I2 rx ry q)
theorem pe_un {op : UnaryOp} {r : V → Hp → VK → Prop} (ho : UnR X (unaryOp op) r) (ha : PE X a ta) : PE X (.UnaryOp op a pos) (tUn r ta) := by
  intro pins s σ H Q I h
  exact UnaryOp_ (thn (ha pins s σ H _ I h) fun v s1 ⟨x, H1, I1, r1, q1⟩ => ho pins s1 σ H1 x v Q I1 r1 q1)
theorem opI {f : Value → Value → Sem Value} {C : Int → Int → Prop} {g : Int → Int → Int}
    (rule : ∀ (i j : Int) (t u : Tok) (s : Shared) (Q : Value → Shared → Prop) (E : Value → Shared → Prop), C i j → Q (.int (g i j) s.toks) { s with toks := s.toks + 1 } → wpAny (model X.prog X.w) X.A (f (.int i t) (.int j u)) Q E s) :
    OpR X f (rI C fun i j => .int (g i j)) := by
  intro pins s σ H x y v u Q I rx ry h
  obtain ⟨i, j, rfl, rfl, hc, q⟩ := h
  obtain ⟨t, rfl⟩ := rx
  obtain ⟨t', rfl⟩ := ry
  exact rule i j t t' s _ _ hc ⟨.int (g i j), H, I.tok _, ⟨_, rfl⟩, q⟩
theorem opI0 {f : Value → Value → Sem Value} {g : Int → Int → Int}
    (rule : ∀ (i j : Int) (t u : Tok) (s : Shared) (Q : Value → Shared → Prop) (E : Value → Shared → Prop), Q (.int (g i j) s.toks) { s with toks := s.toks + 1 } → wpAny (model X.prog X.w) X.A (f (.int i t) (.int j u)) Q E s) :
    OpR X f (rI0 fun i j => .int (g i j)) := by
  intro pins s σ H x y v u Q I rx ry h
  obtain ⟨i, j, rfl, rfl, q⟩ := h
  obtain ⟨t, rfl⟩ := rx
  obtain ⟨t', rfl⟩ := ry
  exact rule i j t t' s _ _ ⟨.int (g i j), H, I.tok _, ⟨_, rfl⟩, q⟩
theorem opB0 {f : Value → Value → Sem Value} {g : Int → Int → Bool}
    (rule : ∀ (i j : Int) (t u : Tok) (s : Shared) (Q : Value → Shared → Prop) (E : Value → Shared → Prop), Q (.bool (g i j)) s → wpAny (model X.prog X.w) X.A (f (.int i t) (.int j u)) Q E s) :
    OpR X f (rI0 fun i j => .bl (g i j)) := by
  intro pins s σ H x y v u Q I rx ry h
  obtain ⟨i, j, rfl, rfl, q⟩ := h
  obtain ⟨t, rfl⟩ := rx
  obtain ⟨t', rfl⟩ := ry
  exact rule i j t t' s _ _ ⟨.bl (g i j), H, I, rfl, q⟩
def CDiv (i j : Int) : Prop := 0 < j ∧ j < 1073741824
def CMul (i j : Int) : Prop := (-(2 ^ 64) < i ∧ i < 2 ^ 64) ∨ (-(2 ^ 64) < j ∧ j < 2 ^ 64)
theorem CMul.ok {i j : Int} (h : CMul i j) : IntMulOk i j := by
  rcases h with ⟨h1, h2⟩ | ⟨h1, h2⟩
  · exact .of_left (intBits_le_64 h1 h2)
  · exact .of_right (intBits_le_64 h1 h2)
theorem op_add : OpR X (binaryOp .Add) (rI0 fun i j => .int (i + j)) := opI0 fun _ _ _ _ _ _ _ q => add_int q
theorem op_sub : OpR X (binaryOp .Sub) (rI0 fun i j => .int (i - j)) := opI0 fun _ _ _ _ _ _ _ q => sub_int q
theorem op_mul : OpR X (binaryOp .Mult) (rI CMul fun i j => .int (i * j)) := opI fun _ _ _ _ _ _ _ hc q => mul_int q hc.ok
theorem op_fdiv : OpR X (binaryOp .FloorDiv) (rI CDiv fun i j => .int (i / j)) := opI fun i j _ _ _ _ _ hc q => by
  have h1 : (0 : Int) < j := hc.1
  have h2 : j < 1073741824 := hc.2
  exact floordiv_int (by omega) (by rw [Int.fdiv_eq_ediv_of_nonneg i (by omega)]; exact q) (.inl (PyProof.noPylong_small (by omega)))
theorem op_mod : OpR X (binaryOp .Mod) (rI (fun _ j => 0 < j) fun i j => .int (i % j)) := opI fun i j _ _ _ _ _ hc q => by
  have h1 : (0 : Int) < j := hc
  exact mod_int' (by omega) (by rw [Int.fmod_eq_emod_of_nonneg i (by omega)]; exact q)
theorem unI {f : Value → Sem Value} {g : Int → Int}
    (rule : ∀ (i : Int) (t : Tok) (s : Shared) (Q : Value → Shared → Prop) (E : Value → Shared → Prop), Q (.int (g i) s.toks) { s with toks := s.toks + 1 } → wpAny (model X.prog X.w) X.A (f (.int i t)) Q E s) :
    UnR X f (rU fun i => .int (g i)) := by
  intro pins s σ H x v Q I rx h
  obtain ⟨i, rfl, q⟩ := h
  obtain ⟨t, rfl⟩ := rx
  exact rule i t s _ _ ⟨.int (g i), H, I.tok _, ⟨_, rfl⟩, q⟩
theorem un_neg : UnR X (unaryOp .USub) (rU fun i => .int (-i)) := unI fun _ _ _ _ _ q => neg_int q
end
def scal : V → V → Bool
  | .non, .non => true | .non, .int _ => true | .int _, .non => true | .non, .bl _ => true | .bl _, .non => true | .non, .str _ => true | .str _, .non => true
  | .int _, .int _ => true | .bl _, .bl _ => true | .str _, .str _ => true | .byt _, .byt _ => true
  | .int _, .str _ => true | .str _, .int _ => true | .bl _, .str _ => true | .str _, .bl _ => true
  | _, _ => false
def rEq : R2 := fun x y H Q => scal x y = true ∧ Q (.bl (decide (x = y))) H
def rNe : R2 := fun x y H Q => scal x y = true ∧ Q (.bl (!decide (x = y))) H
theorem dec_int {i j : Int} : decide (V.int i = V.int j) = (i == j) := by
  rw [Bool.eq_iff_iff]
  simp
theorem dec_bl {i j : Bool} : decide (V.bl i = V.bl j) = (i == j) := by
  rw [Bool.eq_iff_iff]
  simp
theorem dec_str {i j : Str} : decide (V.str i = V.str j) = (i == j) := by
  rw [Bool.eq_iff_iff]
  simp
theorem dec_byt {i j : Array UInt8} : decide (V.byt i = V.byt j) = (i.toList == j.toList) := by
  rw [Bool.eq_iff_iff]
  cases i
  cases j
  simp
section
variable {X : Cx} {a b c : Expr} {ta tb tc : TE} {pos : Pos}
theorem fin_bl {pins : List (Addr × Obj)} {σ : St} {H : Hp} {s : Shared} {Q : VK} {k k' : Bool} (I : Inv X pins σ H s) (q : Q (.bl k) H) (e : k = k') : EP X pins σ Q (.bool k') s := by
  subst e
  exact ⟨.bl k, H, I, rfl, q⟩
theorem op_eq : OpR X (compareOp .Eq) rEq := by
  intro pins s σ H x y v u Q I rx ry h
  obtain ⟨hs, q⟩ := h
  cases x with
  | non =>
    cases rx
    cases y with
    | non => cases ry; exact PySem.EqNone.eq_none_none (fin_bl I q (by simp))
    | bl j => cases ry; exact PySem.EqNone.eq_none_bool (fin_bl I q (by simp))
    | int j => obtain ⟨t', rfl⟩ := ry; exact PySem.EqNone.eq_none_int (fin_bl I q (by simp))
    | str j => obtain ⟨t', rfl⟩ := ry; exact PySem.EqNone.eq_none_str (fin_bl I q (by simp))
    | _ => exact absurd (show false = true from hs) Bool.false_ne_true
  | bl i =>
    cases rx
    cases y with
    | non => cases ry; exact PySem.EqNone.eq_bool_none (fin_bl I q (by simp))
    | bl j => cases ry; exact eq_bool (fin_bl I q dec_bl)
    | str j => obtain ⟨t', rfl⟩ := ry; exact PySem.EqMixed.eq_bool_str (fin_bl I q (by simp))
    | _ => exact absurd (show false = true from hs) Bool.false_ne_true
  | int i =>
    obtain ⟨t, rfl⟩ := rx
    cases y with
    | non => cases ry; exact PySem.EqNone.eq_int_none (fin_bl I q (by simp))
    | int j => obtain ⟨t', rfl⟩ := ry; exact eq_int (fin_bl I q dec_int)
    | str j => obtain ⟨t', rfl⟩ := ry; exact PySem.EqMixed.eq_int_str (fin_bl I q (by simp))
    | _ => exact absurd (show false = true from hs) Bool.false_ne_true
  | str i =>
    obtain ⟨t, rfl⟩ := rx
    cases y with
    | non => cases ry; exact PySem.EqNone.eq_str_none (fin_bl I q (by simp))
    | bl j => cases ry; exact PySem.EqMixed.eq_str_bool (fin_bl I q (by simp))
    | int j => obtain ⟨t', rfl⟩ := ry; exact PySem.EqMixed.eq_str_int (fin_bl I q (by simp))
    | str j => obtain ⟨t', rfl⟩ := ry; exact eq_str (fin_bl I q dec_str)
    | _ => exact absurd (show false = true from hs) Bool.false_ne_true
  | byt i =>
    obtain ⟨t, rfl⟩ := rx
    cases y with
    | byt j => obtain ⟨t', rfl⟩ := ry; exact PySem.W.eq_bytes (fin_bl I q dec_byt)
    | _ => exact absurd (show false = true from hs) Bool.false_ne_true
  | _ => cases y <;> exact absurd (show false = true from hs) Bool.false_ne_true
theorem op_ne : OpR X (compareOp .NotEq) rNe := by
  intro pins s σ H x y v u Q I rx ry h
  obtain ⟨hs, q⟩ := h
  cases x with
  | non =>
    cases rx
    cases y with
    | non => cases ry; exact PySem.EqNone.ne_none_none (fin_bl I q (by simp))
    | bl j => cases ry; exact PySem.EqNone.ne_none_bool (fin_bl I q (by simp))
    | int j => obtain ⟨t', rfl⟩ := ry; exact PySem.EqNone.ne_none_int (fin_bl I q (by simp))
    | str j => obtain ⟨t', rfl⟩ := ry; exact PySem.EqNone.ne_none_str (fin_bl I q (by simp))
    | _ => exact absurd (show false = true from hs) Bool.false_ne_true
  | bl i =>
    cases rx
    cases y with
    | non => cases ry; exact PySem.EqNone.ne_bool_none (fin_bl I q (by simp))
    | bl j => cases ry; exact ne_bool (fin_bl I q (congrArg not dec_bl))
    | str j => obtain ⟨t', rfl⟩ := ry; exact PySem.EqMixed.ne_bool_str (fin_bl I q (by simp))
    | _ => exact absurd (show false = true from hs) Bool.false_ne_true
  | int i =>
    obtain ⟨t, rfl⟩ := rx
    cases y with
    | non => cases ry; exact PySem.EqNone.ne_int_none (fin_bl I q (by simp))
    | int j => obtain ⟨t', rfl⟩ := ry; exact ne_int (fin_bl I q (congrArg not dec_int))
    | str j => obtain ⟨t', rfl⟩ := ry; exact PySem.EqMixed.ne_int_str (fin_bl I q (by simp))
    | _ => exact absurd (show false = true from hs) Bool.false_ne_true
  | str i =>
    obtain ⟨t, rfl⟩ := rx
    cases y with
    | non => cases ry; exact PySem.EqNone.ne_str_none (fin_bl I q (by simp))
    | bl j => cases ry; exact PySem.EqMixed.ne_str_bool (fin_bl I q (by simp))
    | int j => obtain ⟨t', rfl⟩ := ry; exact PySem.EqMixed.ne_str_int (fin_bl I q (by simp))
    | str j => obtain ⟨t', rfl⟩ := ry; exact ne_str (fin_bl I q (congrArg not dec_str))
    | _ => exact absurd (show false = true from hs) Bool.false_ne_true
  | byt i =>
    obtain ⟨t, rfl⟩ := rx
    cases y with
    | byt j => obtain ⟨t', rfl⟩ := ry; exact PySem.W.ne_bytes (fin_bl I q (congrArg not dec_byt))
    | _ => exact absurd (show false = true from hs) Bool.false_ne_true
  | _ => cases y <;> exact absurd (show false = true from hs) Bool.false_ne_true
theorem op_lt : OpR X (compareOp .Lt) (rI0 fun i j => .bl (decide (i < j))) := opB0 fun _ _ _ _ _ _ _ q => lt_int q
theorem op_le : OpR X (compareOp .LtE) (rI0 fun i j => .bl (decide (i ≤ j))) := opB0 fun _ _ _ _ _ _ _ q => le_int q
theorem op_gt : OpR X (compareOp .Gt) (rI0 fun i j => .bl (decide (j < i))) := opB0 fun _ _ _ _ _ _ _ q => gt_int q
theorem nomark (b : Expr) {op : CmpOp} (h : op ≠ .In := by decide) (h2 : op ≠ .NotIn := by decide) : behindInMarks op b = false := by
  have e1 : (op == CmpOp.In) = false := by cases op <;> first | rfl | exact absurd rfl h
  have e2 : (op == CmpOp.NotIn) = false := by cases op <;> first | rfl | exact absurd rfl h2
  cases b <;> simp [behindInMarks, e1, e2]
theorem pe_cmpR {op : CmpOp} {r : R2} (ho : OpR X (compareOp op) r) (ha : PE X a ta) (hb : PE X b tb) (hm : behindInMarks op b = false) : PE X (.Compare a [op] [b] pos) (tOp r ta tb) := by
  intro pins s σ H Q I h
  exact wpAny_Compare1 (binT ha hb I h fun v u s2 x y H2 I2 rx ry q => ho pins s2 σ H2 x y v u Q I2 rx ry q) hm
def tTest (t : TE) : TT := fun σ H Q => t σ H fun x H' => ∃ k, x = .bl k ∧ Q k H'
theorem pt_cmpR {op : CmpOp} {r : R2} (ho : OpR X (compareOp op) r) (ha : PE X a ta) (hb : PE X b tb) (hm : behindInMarks op b = false) : PT X (.Compare a [op] [b] pos) (tTest (tOp r ta tb)) := by
  intro pins s σ H Q I h
  refine wpAny_isTrue_Compare1 (thn (ha pins s σ H _ I h) fun v s1 ⟨x, H1, I1, r1, q1⟩ => thn (hb pins s1 σ H1 _ I1 q1) fun u s2 ⟨y, H2, I2, r2, q2⟩ =>
    thn (ho pins s2 σ H2 x y v u _ I2 r1 r2 q2) fun c s3 ⟨z, H3, I3, r3, k, e, q3⟩ => ?_) hm
  subst e
  cases r3
  exact wpAny_truthy_bool ⟨H3, I3, q3⟩
theorem line63 : (sizeLine : Nat) < 2 ^ 63 := by rw [sizeLine_eq]; decide
theorem op_add_str : OpR X (binaryOp .Add) (fun x y H Q => ∃ i j, x = .str i ∧ y = .str j ∧ i.length + j.length ≤ sizeLine ∧ Q (.str (i ++ j)) H) := by
  intro pins s σ H x y v u Q I rx ry h
  obtain ⟨i, j, rfl, rfl, hz, q⟩ := h
  obtain ⟨t, rfl⟩ := rx
  obtain ⟨t', rfl⟩ := ry
  exact add_str (fun t' tk => ⟨.str (i ++ j), H, I.tok _, ⟨_, rfl⟩, q⟩) hz
theorem vals1 {x : V} {us : List Value} (r : Vals [x] us) : ∃ u, us = [u] ∧ RelV x u := by
  cases r with
  | cons r1 r2 => cases r2; exact ⟨_, rfl, r1⟩
theorem vals2 {x y : V} {us : List Value} (r : Vals [x, y] us) : ∃ u w', us = [u, w'] ∧ RelV x u ∧ RelV y w' := by
  cases r with
  | cons r1 r2 =>
    cases r2 with
    | cons r3 r4 => cases r4; exact ⟨_, _, rfl, r1, r3⟩
end
end L2
namespace L2
open PySem PySem.Spec PyProof.Rows
structure ObjM (h : Heap) (x dx C : Addr) (mA : Str → Option Value) : Prop where
  obj : h.get? x = some (PySem.W.instObj C dx)
  ns : h.Ns1 dx mA
  ne : dx ≠ x
theorem lookIn_ns {h : Heap} {dx : Addr} {mA : Str → Option Value} (n : h.Ns1 dx mA) : ∃ od, h.get? dx = some od ∧ ∀ name, PySem.W.lookIn name od = some (mA name) := by
  obtain ⟨o, es, ep, ho, hd, hk, _, hm⟩ := n
  refine ⟨o, ho, fun name => ?_⟩
  have e := hm name
  unfold nsFind findBy at e
  rw [← Array.find?_toList] at e
  unfold PySem.W.lookIn
  rw [hd]
  dsimp only
  split
  · rename_i y q
    rw [q] at e
    exact congrArg some e
  · rename_i q
    rw [q] at e
    have a : es.toList.any (·.refKey) = false := by
      rw [List.any_eq_false]
      intro y hy
      obtain ⟨z, t, hkey⟩ := hk y (Array.mem_toList_iff.mp hy)
      simp [DictEntry.refKey, hkey]
    have a' : ¬ es.toList.any (·.refKey) = true := by rw [a]; exact Bool.false_ne_true
    rw [if_neg a']
    exact congrArg some e
theorem ObjM.look {h : Heap} {x dx C : Addr} {mA : Str → Option Value} (I : ObjM h x dx C mA) : ∃ od, PySem.W.InstAt h x (PySem.W.instObj C dx) C (some od) ∧ ∀ name, PySem.W.lookIn name od = some (mA name) :=
  let ⟨od, ho, hl⟩ := lookIn_ns I.ns
  ⟨od, ⟨I.obj, rfl, rfl, ho⟩, hl⟩
section
variable {prog : Program} {w : World} {A : Around} {E : Value → Shared → Prop} {s : Shared} {K : PySem.W.Frag} {x dx C f : Addr} {mA : Str → Option Value} {name : Str} {v : Value}
end
section
variable {P : Program} {w : World} {H H' : Hp} {h h' : Heap} {a C dx : Addr} {fs fs' : List (Str × V)}
theorem ins_get (hok : HOk P w H h) (e : H a = some (.ins C dx fs)) : ∃ mA, ObjM h a dx C mA ∧ (∀ f, RelO (fs.lookup f) (mA f)) ∧ PySem.Within mA (fs.map (·.1)) ∧ fs.length ≤ 1000 ∧ H dx = some (.own a) := by
  obtain ⟨d, z, ne, ob, mA, n, r, q⟩ := (show ObjOk P w H h a (.ins C dx fs) from hok a _ e)
  exact ⟨mA, ⟨ob, n, ne⟩, r, q, z, d⟩
end
structure Cls (K : PySem.W.Frag) (C : Addr) : Prop where
  pg : PySem.W.plainGet K C Str.empty = true
  hd : PySem.W.hasDictIn K C = true
  po : PySem.W.plainOver K C = true
  sa : PySem.W.findIn K (.ref C) "__setattr__" = some (some (.builtin "object.__setattr__"))
theorem Cls.get {K : PySem.W.Frag} {C : Addr} (c : Cls K C) (f : Str) : PySem.W.plainGet K C f = true := c.pg
section
variable {X : Cx} {pins : List (Addr × Obj)} {σ : St} {H : Hp} {s : Shared} {a C dx : Addr} {fs : List (Str × V)} {f : Str} {v : V} {A : Around} {E : Value → Shared → Prop}
end
section
variable {X : Cx} {o e value : Expr} {f : Str} {pos pos' tpos : Pos} {ta tv : TE}
end
section
variable {X : Cx} {pins : List (Addr × Obj)} {σ : St} {H : Hp} {s : Shared} {A : Around} {E : Value → Shared → Prop} {Q : Value → Shared → Prop} {c : Value} {b : Bool}
inductive TyOf (K : PySem.W.Frag) (H : Hp) : V → Value → Prop where
  | non : TyOf K H .non (.type "NoneType")
  | bl (x : Bool) : TyOf K H (.bl x) (.type "bool")
  | int (i : Int) : TyOf K H (.int i) (.type "int")
  | str (x : Str) : TyOf K H (.str x) (.type "str")
  | flt (x : UInt64) : TyOf K H (.flt x) (.type "float")
  | lst {a : Addr} {xs : List V} (e : H a = some (.lst xs)) : TyOf K H (.ref a) (.type "list")
  | frz {a : Addr} {o : Obj} {xs : List V} (e : H a = some (.frz o (.lst xs))) : TyOf K H (.ref a) (.type "list")
  | tup {a : Addr} {xs : List V} (e : H a = some (.tup xs)) : TyOf K H (.ref a) (.type "tuple")
  | dK {a : Addr} {kvs : List (Key × V)} (e : H a = some (.dK kvs)) : TyOf K H (.ref a) (.type "dict")
  | dT {a : Addr} {kvs : List (List Key × V)} (e : H a = some (.dT kvs)) : TyOf K H (.ref a) (.type "dict")
  | ins {a C dx : Addr} {fs : List (Str × V)} (e : H a = some (.ins C dx fs)) (cl : Cls K C) (ha : PySem.W.findIn K (.ref C) "__class__" = some (some (.builtin "object.__class__")))
      (hn : PySem.W.specialIn K (.builtin "object.__class__") "__get__" = some (some (.builtin "getset_descriptor.__get__"))) (htk : PySem.W.takesIn K (.builtin "object.__class__") = some true)
      (hm : PySem.W.mroIn K C (.type "object") = some true) : TyOf K H (.ref a) (.ref C)
end
end L2
namespace L2
open PySem PySem.Spec PyProof.Rows
structure Room (k : Nat) (A : Around) : Prop where
  hd : A.handled = none
  dp : A.depth + 3 * k + 5 < recursionLimit
  un : A.units + 16 * k + 200 < cLine
theorem Room.mono {j k : Nat} {A : Around} (r : Room k A) (h : j ≤ k) : Room j A := ⟨r.hd, by have := r.dp; omega, by have := r.un; omega⟩
theorem Room.deeper {k : Nat} {A : Around} (r : Room (k + 1) A) (env : Env) : Room k (A.deeper env) :=
  ⟨r.hd, by have := r.dp; show A.depth + 1 + 3 * k + 5 < _; omega, by have := r.un; show A.units + 3 + 16 * k + 200 < _; omega⟩
theorem Room.depth {k : Nat} {A : Around} (r : Room k A) : A.depth < recursionLimit := by have := r.dp; omega
theorem Room.units {k : Nat} {A : Around} (r : Room k A) : A.units + 64 < cLine := by have := r.un; omega
theorem Room.units0 {k : Nat} {A : Around} (r : Room k A) : A.units < cLine := by have := r.un; omega
def tNil : TA := fun _ H Q => Q [] H
def tCons (ta : TE) (tr : TA) : TA := fun σ H Q => ta σ H fun x H1 => tr σ H1 fun xs H2 => Q (x :: xs) H2
section
variable {X : Cx} {e : Expr} {es : List Expr} {te : TE} {t : TA} {pos : Pos}
theorem pa_nil : PA X [] tNil := fun _ _ _ _ H Q I h => Calls.spliced_nil ⟨[], H, I, .nil, h⟩
theorem pa_cons (ha : PE X e te) (hr : PA X es t) (hs : starEach (e :: es) X.env = (false, eval e X.env) :: starEach es X.env := by rfl) : PA X (e :: es) (tCons te t) := by
  intro pos pins s σ H Q I h
  rw [hs]
  show wpAny _ _ (spliced ((false, eval e X.env) :: backTo pos (starEach es X.env))) _ _ s
  refine Calls.spliced_cons (thn (ha pins s σ H _ I h) fun u s1 ⟨x, H1, I1, r1, q1⟩ => ?_)
  exact thn (hr pos pins s1 σ H1 _ I1 q1) fun us s2 ⟨xs, H2, I2, r2, q2⟩ => ⟨x :: xs, H2, I2, .cons r1 r2, q2⟩
def tTup (t : TA) : TE := fun σ H Q => t σ H fun xs H1 => xs.length ≤ sizeLine ∧ ∀ p, H1 p = none → Q (.ref p) (upd H1 p (.tup xs))
def tLst (t : TA) : TE := fun σ H Q => t σ H fun xs H1 => xs.length ≤ sizeLine ∧ ∀ p, H1 p = none → Q (.ref p) (upd H1 p (.lst xs))
theorem pe_tup {x1} (h : PA X es t) : PE X (.Tuple es x1 pos) (tTup t) := by
  intro pins s σ H Q I hq
  refine wpAny_Tuple_spliced (thn (h pos pins s σ H _ I hq) fun us s1 ⟨xs, H1, I1, r, z, q⟩ => ⟨by rw [← r.length]; exact z, ?_⟩)
  have hf : H1 s1.heap.objs.size = none := I1.hok.fresh (Nat.le_refl _)
  refine ⟨.ref s1.heap.objs.size, upd H1 s1.heap.objs.size (.tup xs), I1.laid (t' := s1.toks) (fun b u e => Heap.get?_push_of_some _ e) (Nat.le_refl _) ?_, rfl, q _ hf⟩
  exact ⟨z, us, r, ⟨_, Heap.get?_push_size _ rfl, rfl, _, rfl⟩⟩
theorem pe_lst (h : PA X es t) : PE X (.List es pos) (tLst t) := by
  intro pins s σ H Q I hq
  refine wpAny_List_spliced (thn (h pos pins s σ H _ I hq) fun us s1 ⟨xs, H1, I1, r, z, q⟩ => ⟨by rw [← r.length]; exact z, ?_⟩)
  have hf : H1 s1.heap.objs.size = none := I1.hok.fresh (Nat.le_refl _)
  refine ⟨.ref s1.heap.objs.size, upd H1 s1.heap.objs.size (.lst xs), I1.laid (t' := s1.toks) (fun b u e => Heap.get?_push_of_some _ e) (Nat.le_refl _) ?_, rfl, q _ hf⟩
  exact ⟨z, us, 0, r, Heap.get?_push_size _ rfl⟩
end
abbrev Sp := List V → Hp → VK → XK → Prop
abbrev CXT := List Env → Hp → Shared → XK → Value → Shared → Prop
structure Env0 (P : Program) (w : World) (K : PySem.W.Frag) (mg : Str → Option Value) (base : Heap) (A : Around) (outer : List Env) (s : Shared) (H : Hp) : Prop where
  frames : A.frames = some outer
  mod : Mod K mg base
  bs : ∀ b o, base.get? b = some o → s.heap.get? b = some o ∧ H b = none
  bsz : base.objs.size ≤ s.heap.objs.size
  funs : s.heap.FunFrames base outer
  frf : ∀ b ∈ frs outer, H b = none
  hok : HOk P w H s.heap
  bare : AllBare s.gens
def CE (outer : List Env) (P : Program) (w : World) (H : Hp) (s : Shared) (Q : VK) (u : Value) (s' : Shared) : Prop :=
  ∃ v H', s'.os = s.os ∧ AllBare s'.gens ∧ Un (frs outer) [] H H' s.heap s'.heap ∧ HOk P w H' s'.heap ∧ RelV v u ∧ Q v H'
def CR (CX : CXT) (outer : List Env) (P : Program) (w : World) (H : Hp) (s : Shared) (Q : VK) (E : XK) (r : Result) (s' : Shared) : Prop :=
  match r with
  | .ok (.ret u) => CE outer P w H s Q u s'
  | .ok _ => False
  | .error e => CX outer H s E e s'
structure FnOk (P : Program) (w : World) (K : PySem.W.Frag) (mg : Str → Option Value) (base : Heap) (CX : CXT) (k : Nat) (f : Addr) (fd : FuncData) (ps : List Str) (sp : Sp) : Prop where
  len : ∀ vs H Q E, sp vs H Q E → vs.length = ps.length
  run : ∀ (A : Around) (outer : List Env) (s : Shared) (H : Hp) (args : Args) (us : List Value) (vs : List V) (Q : VK) (E : XK), Room k A → Env0 P w K mg base A outer s H → BindsTo s fd args (ps.zip us) → Vals vs us → sp vs H Q E →
    codeAny (model P w) A (.call (.ref f) args) (CR CX outer P w H s Q E) s
section
variable {X : Cx} {pins : List (Addr × Obj)} {σ : St} {H : Hp} {s s' : Shared}
theorem Inv.env0 (I : Inv X pins σ H s) : Env0 X.prog X.w X.K X.mg X.base X.A X.stack s H :=
  ⟨I.ok.frames, I.ok.mod, I.bs, Nat.le_trans I.ok.bsz I.sz, I.stack, I.stkFree, I.hok, I.bare⟩
theorem Inv.after {Q : VK} {u : Value} (I : Inv X pins σ H s) (h : CE X.stack X.prog X.w H s Q u s') : EP X pins σ Q u s' := by
  obtain ⟨v, H', os, bare, un, hok, r, q⟩ := h
  obtain ⟨hh, g, d, t, os'⟩ := s'
  obtain rfl : os' = s.os := os
  exact ⟨v, H', I.call (h' := hh) (g' := g) (d' := d) (t' := t) (ch := []) un hok bare (fun b z => absurd z (by simp)), r, q⟩
end
def tCall (sp : Sp) (dvs : List V) (E : XK) (t : TA) : TE := fun σ H Q => t σ H fun vs H1 => sp (vs ++ dvs) H1 Q E
def Binds (K : PySem.W.Frag) (fd : FuncData) (ps : List Str) (ds : List Value) : Prop :=
  ∀ (s : Shared) (us : List Value), K.In s.heap → (us ++ ds).length = ps.length → BindsTo s fd ⟨us, []⟩ (ps.zip (us ++ ds))
theorem Binds.all {K : PySem.W.Frag} {fd : FuncData} {ps : List Str} (h : ∀ us : List Value, us.length = ps.length → bindArgs fd ⟨us, []⟩ = pure (ps.zip us)) : Binds K fd ps [] := fun s us _ hl => by
  rw [List.append_nil] at hl ⊢
  exact .of_eq (h us hl)
def Passes (CX : CXT) (X : Cx) (E : XK) : Prop := ∀ (pins : List (Addr × Obj)) (σ : St) (H : Hp) (s : Shared) (e : Value) (s' : Shared), Inv X pins σ H s → CX X.stack H s E e s' → X.xe e s'
section
variable {X : Cx} {CX : CXT} {k : Nat} {f C : Addr} {fd : FuncData} {ps : List Str} {sp : Sp} {dvs : List V} {ds : List Value} {E : XK} {x m : Str} {p pos apos : Pos} {e o : Expr} {es : List Expr} {ta : TE} {t : TA}
theorem run_fn {pins : List (Addr × Obj)} {σ : St} {H : Hp} {s : Shared} {Q : VK} {us : List Value} {vs : List V} (F : FnOk X.prog X.w X.K X.mg X.base CX k f fd ps sp) (hr : Room k X.A) (hb : Binds X.K fd ps ds) (hd : Vals dvs ds) (hx : Passes CX X E)
    (I : Inv X pins σ H s) (r : Vals vs us) (h : sp (vs ++ dvs) H Q E) : wpAny (model X.prog X.w) X.A (call (.ref f) us) (EP X pins σ Q) X.xe s := by
  have r2 : Vals (vs ++ dvs) (us ++ ds) := r.append hd
  have hl : (us ++ ds).length = ps.length := by rw [← r2.length]; exact F.len _ _ _ _ h
  refine wpAny_call (codeAny_mono (F.run X.A X.stack s H ⟨us, []⟩ (us ++ ds) (vs ++ dvs) Q E hr I.env0 (hb s us I.kIn hl) r2 h) fun r s' hq => ?_)
  cases r with
  | error e => exact hx pins σ H s e s' I hq
  | ok fl =>
    cases fl with
    | ret u => exact I.after hq
    | next => exact False.elim hq
    | brk => exact False.elim hq
    | cont => exact False.elim hq
theorem pe_call (F : FnOk X.prog X.w X.K X.mg X.base CX k f fd ps sp) (hr : Room k X.A) (hg : Gl X x) (hm : X.mg x = some (.ref f)) (hk : PySem.W.keepIn X.K (.ref f) = true) (hb : Binds X.K fd ps ds) (hd : Vals dvs ds) (hx : Passes CX X E)
    (ha : PA X (e :: es) t) (hdb : (x == ("__debug__" : Str)) = false := by decide) (he : starEach (e :: es) X.env = (false, eval e X.env) :: starEach es X.env := by rfl) (hpl : (backTo pos (starEach es X.env)).any (·.1) = false := by rfl) :
    PE X (.Call (.Name x p) (e :: es) [] pos) (tCall sp dvs E t) := by
  intro pins s σ H Q I h
  refine wpAny_Call_Name_kw (ld_glob I hg hm ?_ hdb)
  refine PySem.W.callWith_K (h₀ := X.base) I.ok.mod.kin hk (thn (ha pos pins s σ H _ I h) fun us s1 ⟨vs, H1, I1, r, q⟩ => ⟨I1.kIn, ?_⟩) he hpl
  exact run_fn F hr hb hd hx I1 r q
end
section
variable {X : Cx} {CX : CXT} {k : Nat} {f C : Addr} {fd : FuncData} {ps ks : List Str} {sp : Sp} {E : XK} {x m : Str} {p pos apos kpos : Pos} {e o : Expr} {es : List Expr} {kws : List Keyword} {te ta : TE} {t tk : TA} {nm : Option Str}
variable {g : List Value → List Value → List Value} {gV : List V → List V → List V}
end
structure FnScope (N P : List Str) (sc : Scope) : Prop where
  kind : sc.kind = .function
  co : sc.isCoroutine = false
  gen : sc.isGenerator = false
  nd : N.Nodup
  pre : N.take P.length = P
  par : ∀ x ∈ P, sc.names.lookup x = some .local ∨ sc.names.lookup x = some .cell
  nofree : ∀ y ∈ sc.names, y.2 ≠ .free
theorem bindL_out {kindOf : Str → Option NameKind} {x : Str} : ∀ {binds : List (Str × Value)} {m : Str → Option Value}, (∀ v, (x, v) ∉ binds) → bindL kindOf binds m x = m x
  | [], _, _ => rfl
  | (n, v) :: r, m, h => by
    unfold bindL
    rw [bindL_out fun w hw => h w (List.mem_cons_of_mem _ hw)]
    split
    · have : x ≠ n := by rintro rfl; exact h v List.mem_cons_self
      simp [this]
    · rfl
theorem bindC_out {kindOf : Str → Option NameKind} {x : Str} : ∀ {binds : List (Str × Value)} {m : Str → Option Value}, (∀ v, (x, v) ∉ binds) → bindC kindOf binds m x = m x
  | [], _, _ => rfl
  | (n, v) :: r, m, h => by
    unfold bindC
    rw [bindC_out fun w hw => h w (List.mem_cons_of_mem _ hw)]
    split
    · rfl
    · have : x ≠ n := by rintro rfl; exact h v List.mem_cons_self
      simp [this]
theorem bindL_get {kindOf : Str → Option NameKind} {x : Str} {v : Value} : ∀ {P : List Str} {vs : List Value} {i : Nat} {m : Str → Option Value}, P.Nodup → P[i]? = some x → vs[i]? = some v → kindOf x = some .local →
    bindL kindOf (P.zip vs) m x = some v
  | [], _, _, _, _, h, _, _ => by simp at h
  | _ :: _, [], _, _, _, _, h, _ => by simp at h
  | p :: P, w :: vs, 0, m, nd, h1, h2, hk => by
    simp at h1 h2; subst h1; subst h2
    show bindL kindOf ((p, w) :: P.zip vs) m p = _
    unfold bindL
    rw [bindL_out fun v hv => (List.nodup_cons.mp nd).1 (List.of_mem_zip hv).1, if_pos hk]
    simp
  | p :: P, w :: vs, i + 1, m, nd, h1, h2, hk => by
    show bindL kindOf ((p, w) :: P.zip vs) m x = _
    unfold bindL
    exact bindL_get (i := i) (List.nodup_cons.mp nd).2 (by simpa using h1) (by simpa using h2) hk
theorem bindC_get {kindOf : Str → Option NameKind} {x : Str} {v : Value} : ∀ {P : List Str} {vs : List Value} {i : Nat} {m : Str → Option Value}, P.Nodup → P[i]? = some x → vs[i]? = some v → kindOf x ≠ some .local →
    bindC kindOf (P.zip vs) m x = some v
  | [], _, _, _, _, h, _, _ => by simp at h
  | _ :: _, [], _, _, _, _, h, _ => by simp at h
  | p :: P, w :: vs, 0, m, nd, h1, h2, hk => by
    simp at h1 h2; subst h1; subst h2
    show bindC kindOf ((p, w) :: P.zip vs) m p = _
    unfold bindC
    rw [bindC_out fun v hv => (List.nodup_cons.mp nd).1 (List.of_mem_zip hv).1, if_neg hk]
    simp
  | p :: P, w :: vs, i + 1, m, nd, h1, h2, hk => by
    show bindC kindOf ((p, w) :: P.zip vs) m x = _
    unfold bindC
    exact bindC_get (i := i) (List.nodup_cons.mp nd).2 (by simpa using h1) (by simpa using h2) hk
def start (N : List Str) (vs : List V) : St := vs.map some ++ List.replicate (N.length - vs.length) none
def cxOf (CX : CXT) (P : Program) (w : World) (K : PySem.W.Frag) (mg : Str → Option Value) (base : Heap) (N : List Str) (qual : Str) (scope : Scope) (f : Addr) (cd : Value) (A : Around) (outer : List Env) (s : Shared) (H : Hp) (E : XK) : Cx where
  prog := P
  w := w
  K := K
  mg := mg
  base := base
  A := A.deeper (envOfC qual scope s.heap.objs.size f cd)
  N := N
  s₀ := s
  H₀ := H
  env := envOfC qual scope s.heap.objs.size f cd
  outer := outer
  stack := envOfC qual scope s.heap.objs.size f cd :: outer
  ex := []
  calm := true
  fn := fun _ => true
  pn := []
  xe := fun e s' => wpAny (model P w) (A.deeper (envOfC qual scope s.heap.objs.size f cd)) (leaving (envOfC qual scope s.heap.objs.size f cd) e) (fun _ s'' => CX outer H s E e s'') (fun e' s'' => CX outer H s E e' s'') s'
theorem cell_has {sc : Scope} {n : Nat} {x : Str} (h : sc.names.lookup x = some .cell) : ∃ c, (cellsFrom n sc.names []).lookup x = some c := by
  have q := PySem.W.cellsFrom_some sc.names n [] (.inl h)
  exact Option.isSome_iff_exists.mp q
theorem inv_start {CX : CXT} {P : Program} {w : World} {K : PySem.W.Frag} {mg : Str → Option Value} {base : Heap} {N ps : List Str} {qual : Str} {scope : Scope} {f : Addr} {cd : Value} {A : Around} {outer : List Env} {s s1 : Shared} {H : Hp} {E : XK} {us : List Value} {vs : List V}
    (S : FnScope N ps scope) (hd : A.handled = none) (e0 : Env0 P w K mg base A outer s H) (hl : vs.length = ps.length) (r : Vals vs us)
    (x : InCallC s s.heap.objs.size (bindL (envOfC qual scope s.heap.objs.size f cd).kindOf (ps.zip us) fun _ => none) (cellsFrom (s.heap.objs.size + 1) scope.names []) (bindC (envOfC qual scope s.heap.objs.size f cd).kindOf (ps.zip us) fun _ => none) s1) :
    Inv (cxOf CX P w K mg base N qual scope f cd A outer s H E) [] (start N vs) H s1 := by
  have hpl : ps.length ≤ N.length := by have := congrArg List.length S.pre; rw [List.length_take] at this; omega
  obtain ⟨h1, tk, rfl, hk⟩ := x.done
  have noA : ∀ b : Addr, b ∉ (cxOf CX P w K mg base N qual scope f cd A outer s H E).ex := fun b z => absurd (show b ∈ ([] : List Addr) from z) (by simp)
  refine ⟨⟨e0.mod, S.kind, rfl, rfl, Nat.le_refl _, fun y z c h1 h2 => ?_, fun y hy => ?_, fun y c _ h => ?_, fun _ => hd, Around.frames_deeper e0.frames, .inr ⟨rfl, rfl⟩, fun b z => absurd z (noA b), e0.bs, e0.bsz, fun b _ _ => noA b, fun b z => absurd z (noA b), e0.funs, e0.frf⟩,
    rfl, e0.bare, Un.kept hk, ⟨_, x.toInCall.ns, fun i y v h1 h2 h3 => ?_⟩, fun y c h => ⟨_, x.cell y c h⟩, e0.hok.fresh (Nat.le_refl _), fun y c h => ?_, fun p hp => absurd (show p ∈ ([] : List (Addr × Obj)) from hp) (by simp), e0.hok.kept hk, ?_⟩
  · exact name_of_addr x.apart (PySem.mem_of_lookup h1) (PySem.mem_of_lookup h2)
  · have hy : scope.names.lookup y = some .cell ∨ scope.names.lookup y = some .free := hy
    rcases hy with hy | hy
    · exact cell_has hy
    · exact absurd rfl (S.nofree _ (PySem.mem_of_lookup hy))
  · exact Nat.le_of_lt (x.above y c (PySem.mem_of_lookup h))
  · have hi : i < vs.length := by
      unfold start at h2
      by_cases hi : i < vs.length
      · exact hi
      · rw [List.getElem?_append_right (by simpa using hi)] at h2
        rw [List.getElem?_replicate] at h2
        split at h2 <;> cases h2
    have ha : vs[i]? = some v := by
      unfold start at h2
      rw [List.getElem?_append_left (by simpa using hi), List.getElem?_map] at h2
      cases e : vs[i]? with
      | none => rw [e] at h2; cases h2
      | some a => rw [e] at h2; cases h2; rfl
    obtain ⟨u, hu, rv⟩ := r.get ha
    have hp : ps[i]? = some y := by
      rw [← S.pre, List.getElem?_take_of_lt (by omega)]; exact h1
    have ndP : ps.Nodup := by rw [← S.pre]; exact S.nd.sublist (List.take_sublist _ _)
    refine ⟨u, rv, ?_⟩
    rcases S.par y (List.mem_of_getElem? hp) with k | k
    · exact .inl ⟨k, bindL_get ndP hp hu k⟩
    · obtain ⟨c, e⟩ := cell_has (n := s.heap.objs.size + 1) k
      refine .inr ⟨.inl k, c, e, ?_⟩
      have q := x.cell y c e
      rw [bindC_get ndP hp hu (by show scope.names.lookup y ≠ _; rw [k]; decide)] at q
      exact q
  · exact e0.hok.fresh (Nat.le_of_lt (x.above y c (PySem.mem_of_lookup h)))
  · unfold start
    show _ = N.length
    rw [List.length_append, List.length_map, List.length_replicate]
    omega
theorem fn_of {CX : CXT} {P : Program} {w : World} {K : PySem.W.Frag} {mg : Str → Option Value} {base : Heap} {k : Nat} {f : Addr} {name qual : Str} {params : Arguments} {body : List Stmt} {scope : Scope} {dV kV doc pm cdv ct oc : Value} {an od : Option Addr}
    {osl : Array (Option Value)} {N ps : List Str} {sp : Sp} (lk : K.lookup f = some ⟨oc, od, .func (PySem.W.fnOf name qual params body scope dV kV doc pm an cdv ct), osl⟩) (hcd : PySem.W.codeIn K cdv qual = true) (S : FnScope N ps scope)
    (len : ∀ vs H Q E, sp vs H Q E → vs.length = ps.length)
    (hbody : ∀ (A : Around) (outer : List Env) (s : Shared) (H : Hp) (vs : List V) (Q : VK) (E : XK), Room k (A.deeper (envOfC qual scope s.heap.objs.size f cdv)) → sp vs H Q E →
      ∃ t, PSs (cxOf CX P w K mg base N qual scope f cdv A outer s H E) body t ∧ t { nx := fun _ H' => Q .non H', rt := Q } (start N vs) H) :
    FnOk P w K mg base CX (k + 1) f (PySem.W.fnOf name qual params body scope dV kV doc pm an cdv ct) ps sp := by
  refine ⟨len, fun A outer s H args us vs Q E hr e0 hb r hsp => ?_⟩
  have hl := len _ _ _ _ hsp
  have KX : K.In s.heap := e0.mod.kin.keeps fun b o e => (e0.bs b o e).1
  have lim : s.heap.NoLimit := e0.mod.nolimit.keeps fun b o e => (e0.bs b o e).1
  have hkind : ∀ y ∈ ps.zip us, scope.names.lookup y.1 = some .local ∨ (scope.names.lookup y.1 = some .cell ∧ ((cellsFrom (s.heap.objs.size + 1) scope.names []).lookup y.1).isSome = true) := fun ⟨n, v⟩ hy => by
    rcases S.par n (List.of_mem_zip hy).1 with q | q
    · exact .inl q
    · exact .inr ⟨q, PySem.W.cellsFrom_some _ _ _ (.inl q)⟩
  refine codeAny_call_function hr.depth (KX _ _ lk) rfl S.co S.gen rfl (PySem.W.codeRec_of KX hcd) (hb _ _ _ _ ?_)
  refine wpAny_newFunctionEnv_cells S.kind hkind fun env he s1 x => ?_
  subst he
  refine ⟨lim.keeps x.toInCall.keep, codeAny_func ?_⟩
  obtain ⟨t, ht, hq⟩ := hbody A outer s H vs Q E (hr.deeper _) hsp
  have I : Inv (cxOf CX P w K mg base N qual scope f cdv A outer s H E) [] (start N vs) H s1 := inv_start S hr.hd e0 hl r x
  refine wpAny_mono (ht [] s1 (start N vs) H _ I hq) (fun fl s' hs => ?_) fun e s' hs => hs
  have fin : ∀ {σ' : St} {H' : Hp} {v : V} {u : Value}, Inv (cxOf CX P w K mg base N qual scope f cdv A outer s H E) [] σ' H' s' → RelV v u → Q v H' → CE outer P w H s Q u s' :=
    fun {σ' H' v u} J rv q => ⟨v, H', J.os, J.bare, J.base, J.hok, rv, q⟩
  cases fl with
  | ret u =>
    obtain ⟨v, σ', H', J, rv, q⟩ := hs
    exact fin J rv q
  | next =>
    obtain ⟨σ', H', J, q⟩ := hs
    exact fin (v := V.non) (u := Value.none) J rfl q
  | brk =>
    obtain ⟨_, _, _, q⟩ := hs
    exact False.elim q
  | cont =>
    obtain ⟨_, _, _, q⟩ := hs
    exact False.elim q
end L2
namespace L2
open PySem PySem.Spec PyProof.Rows
section
variable {X : Cx} {x : Str} {p pos : Pos} {e : Expr} {es : List Expr} {t : TA} {id T : String} {r : List V → Hp → VK → Prop}
def tCB (r : List V → Hp → VK → Prop) (t : TA) : TE := fun σ H Q => t σ H fun vs H1 => r vs H1 Q
theorem pe_callB (hc : CallR X (.builtin id) r) (hg : Gl X x) (hm : X.mg x = none) (hv : bootBuiltins x = some (.builtin id)) (ha : PA X (e :: es) t) (hn : x ≠ "__name__" := by decide) (hdb : (x == ("__debug__" : Str)) = false := by decide)
    (he : starEach (e :: es) X.env = (false, eval e X.env) :: starEach es X.env := by rfl) (hpl : (backTo pos (starEach es X.env)).any (·.1) = false := by rfl) : PE X (.Call (.Name x p) (e :: es) [] pos) (tCB r t) := by
  intro pins s σ H Q I h
  refine wpAny_Call_Name_kw (ld_blt I hg hm hv ?_ hn hdb)
  exact PyProof.Rows.callWith_builtin1 (thn (ha pos pins s σ H _ I h) fun us s1 ⟨vs, H1, I1, r1, q1⟩ => hc pins s1 σ H1 vs us Q I1 r1 q1) he hpl
theorem pe_callTy (hc : CallR X (.type T) r) (hg : Gl X x) (hm : X.mg x = none) (hv : bootBuiltins x = some (.type T)) (ha : PA X (e :: es) t) (hn : x ≠ "__name__" := by decide) (hdb : (x == ("__debug__" : Str)) = false := by decide)
    (he : starEach (e :: es) X.env = (false, eval e X.env) :: starEach es X.env := by rfl) (hpl : (backTo pos (starEach es X.env)).any (·.1) = false := by rfl) : PE X (.Call (.Name x p) (e :: es) [] pos) (tCB r t) := by
  intro pins s σ H Q I h
  refine wpAny_Call_Name_kw (ld_blt I hg hm hv ?_ hn hdb)
  exact PyProof.Rows.callWith_type1 (thn (ha pos pins s σ H _ I h) fun us s1 ⟨vs, H1, I1, r1, q1⟩ => hc pins s1 σ H1 vs us Q I1 r1 q1) he hpl
end
end L2
namespace HT
open PySem PyProof.Rows
section
open PySem.SeqAt
open PySem.AutoSeq1 (wpAny_loadPart')
open PySem.MeetsSeq PySem.MeetsSeq2 PySem.MeetsSeq3
end
section
variable {prog : Program} {w : World} {A : Around} {E : Value → Shared → Prop} {s : Shared}
def sIx (n d : Nat) : Option Int → Nat
  | none => d
  | some v => if v < 0 then (v + (n : Int)).toNat else min v.toNat n
theorem sIx_none (n d : Nat) : sIx n d none = d := rfl
theorem sIx_nat (n d k : Nat) : sIx n d (some (k : Int)) = min k n := by
  show (if (k : Int) < 0 then ((k : Int) + (n : Int)).toNat else min (k : Int).toNat n) = min k n
  rw [if_neg (by omega), Int.toNat_natCast]
end
end HT
namespace L2
open PySem PySem.Spec PyProof.Rows
abbrev TO := St → Hp → (Option Int → Hp → Prop) → Prop
def PO (X : Cx) (e : Option Expr) (t : TO) : Prop :=
  ∀ (pins : List (Addr × Obj)) (s : Shared) (σ : St) (H : Hp) (Q : Option Int → Hp → Prop), Inv X pins σ H s → t σ H Q →
    wpAny (model X.prog X.w) X.A (evalPart e X.env) (fun u s' => ∃ o H', Inv X pins σ H' s' ∧ IsPart u o ∧ Q o H') X.xe s
def tNoPart : TO := fun _ H Q => Q none H
def tPart (t : TE) : TO := fun σ H Q => t σ H fun x H1 => ∃ i, x = .int i ∧ Q (some i) H1
section
variable {X : Cx} {e : Expr} {te : TE} {lo hi : Option Expr} {tl th : TO} {pos p2 : Pos}
theorem po_none : PO X none tNoPart := by
  intro pins s σ H Q I h
  rw [evalPart_none]
  exact wpAny_pure ⟨none, H, I, .none, h⟩
theorem po_some (h : PE X e te) : PO X (some e) (tPart te) := by
  intro pins s σ H Q I hw
  rw [evalPart_some]
  refine thn (h pins s σ H _ I hw) fun u s1 ⟨x, H1, I1, r1, q1⟩ => ?_
  obtain ⟨i, rfl, q⟩ := q1
  obtain ⟨t, rfl⟩ := r1
  exact ⟨some i, H1, I1, .int i t, q⟩
def SlR (X : Cx) (r : V → Option Int → Option Int → Hp → VK → Prop) : Prop :=
  ∀ (pins : List (Addr × Obj)) (s : Shared) (σ : St) (H : Hp) (x : V) (v vl vu : Value) (lo hi : Option Int) (sl : Addr) (Q : VK), Inv X pins σ H s → RelV x v → s.heap.IsSliceOf sl vl vu .none → IsPart vl lo → IsPart vu hi → r x lo hi H Q →
    ∃ T id, typeLookup (.type T) "__getitem__" = pure (some (.builtin id)) ∧ s.TypeIs v T ∧ wpAny (model X.prog X.w) X.A (getItem v (.ref sl)) (EP X pins σ Q) X.xe s
def tSl (r : V → Option Int → Option Int → Hp → VK → Prop) (te : TE) (tl th : TO) : TE := fun σ H Q => te σ H fun x H1 => tl σ H1 fun l H2 => th σ H2 fun u H3 => r x l u H3 Q
theorem pe_slice {r : V → Option Int → Option Int → Hp → VK → Prop} (hr : SlR X r) (he : PE X e te) (hl : PO X lo tl) (hu : PO X hi th) : PE X (.Subscript e (.Slice lo hi none p2) pos) (tSl r te tl th) := by
  intro pins s σ H Q I h
  refine Subscript_ (thn (he pins s σ H _ I h) fun v s1 ⟨x, H1, I1, r1, q1⟩ => ?_)
  refine wpAny_Slice (thn (hl pins s1 σ H1 _ I1 q1) fun vl s2 ⟨l, H2, I2, pl, q2⟩ => thn (hu pins s2 σ H2 _ I2 q2) fun vu s3 ⟨u, H3, I3, pu, q3⟩ => ?_)
  rw [evalPart_none]
  refine wpAny_pure ?_
  have I4 : Inv X pins σ H3 { s3 with heap := s3.heap.push { cls := .type "slice", data := .fields #[vl, vu, .none] } } := I3.kept (t' := s3.toks) fun b ob q => Heap.get?_push_of_some _ q
  obtain ⟨T, id, hT, ht, hg⟩ := hr pins { s3 with heap := s3.heap.push { cls := .type "slice", data := .fields #[vl, vu, .none] } } σ H3 x v vl vu l u s3.heap.objs.size Q I4 r1 (Heap.IsSliceOf.new ..) pl pu q3
  show wpAny (model X.prog X.w) X.A (subscriptTail e (.Slice lo hi none p2) v (.ref s3.heap.objs.size)) (EP X pins σ Q) X.xe { s3 with heap := s3.heap.push { cls := .type "slice", data := .fields #[vl, vu, .none] } }
  exact tail_any (ops := [.ref s3.heap.objs.size, v]) ht hT hg (by with_unfolding_all rfl)
def cutV (xs : List V) (lo hi : Option Int) : List V := (xs.drop (HT.sIx xs.length 0 lo)).take (HT.sIx xs.length xs.length hi - HT.sIx xs.length 0 lo)
theorem cutV_length (xs : List V) (lo hi : Option Int) : (cutV xs lo hi).length ≤ xs.length := by
  unfold cutV
  rw [List.length_take, List.length_drop]
  omega
end
end L2
namespace L2
open PySem PySem.Spec PyProof.Rows
def ixN (n : Nat) (i : Int) : Option Nat := if 0 ≤ i then (if i < n then some i.toNat else none) else if -(n : Int) ≤ i then some (i + n).toNat else none
def atI {α : Type} (xs : List α) (i : Int) : Option α := (ixN xs.length i).bind fun j => xs[j]?
theorem ixN_seq {n : Nat} {i : Int} {j : Nat} (h : ixN n i = some j) : seqIndex? i n = some j ∧ j < n ∧ -(n : Int) ≤ i ∧ i < n := by
  unfold ixN at h
  by_cases h0 : 0 ≤ i
  · rw [if_pos h0] at h
    by_cases h1 : i < n
    · rw [if_pos h1] at h
      have e : i.toNat = j := Option.some.inj h
      exact ⟨by rw [seqIndex_of h0 h1, e], by omega, by omega, h1⟩
    · rw [if_neg h1] at h; cases h
  · rw [if_neg h0] at h
    by_cases h1 : -(n : Int) ≤ i
    · rw [if_pos h1] at h
      have e : (i + n).toNat = j := Option.some.inj h
      exact ⟨by rw [seqIndex_neg (by omega) h1, e], by omega, h1, by omega⟩
    · rw [if_neg h1] at h; cases h
theorem atI_get {α : Type} {xs : List α} {i : Int} {v : α} (h : atI xs i = some v) : ∃ j, seqIndex? i xs.length = some j ∧ xs[j]? = some v ∧ j < xs.length ∧ -(xs.length : Int) ≤ i ∧ i < xs.length := by
  unfold atI at h
  cases e : ixN xs.length i with
  | none => rw [e] at h; cases h
  | some j =>
    rw [e] at h
    obtain ⟨h1, h2, h3, h4⟩ := ixN_seq e
    exact ⟨j, h1, h, h2, h3, h4⟩
theorem atI_nat {α : Type} {xs : List α} {j : Nat} {v : α} (h : xs[j]? = some v) : atI xs (j : Int) = some v := by
  have hj : j < xs.length := (List.getElem?_eq_some_iff.mp h).1
  have e : ixN xs.length (j : Int) = some j := by
    unfold ixN
    rw [if_pos (by omega), if_pos (by omega)]; simp
  unfold atI; rw [e]; exact h
def PlainIx (b : Expr) : Prop := ∀ o i, subscripted b false o i = operate [o, i] (getItem o i)
def IxR (X : Cx) (r : R2) : Prop :=
  ∀ (value slice : Expr) (pins : List (Addr × Obj)) (s : Shared) (σ : St) (H : Hp) (x y : V) (v u : Value) (Q : VK), Inv X pins σ H s → RelV x v → RelV y u → r x y H Q →
    subscripted slice false v u = operate [v, u] (getItem v u) → wpAny (model X.prog X.w) X.A (subscriptTail value slice v u) (EP X pins σ Q) X.xe s
def MtR (X : Cx) (id : String) (r : V → List V → Hp → VK → Prop) : Prop :=
  ∀ (pins : List (Addr × Obj)) (s : Shared) (σ : St) (H : Hp) (x : V) (xs : List V) (v : Value) (us : List Value) (Q : VK), Inv X pins σ H s → RelV x v → Vals xs us → r x xs H Q →
    wpAny (model X.prog X.w) X.A (call (.builtin id) (v :: us)) (EP X pins σ Q) X.xe s
section
variable {X : Cx} {a b : Expr} {ta tb : TE} {pos : Pos}
theorem pe_ix {r : R2} (hr : IxR X r) (ha : PE X a ta) (hb : PE X b tb) (hs : PlainIx b) : PE X (.Subscript a b pos) (tOp r ta tb) := by
  intro pins s σ H Q I h
  exact Subscript_ (binT ha hb I h fun v u s2 x y H2 I2 rx ry q => hr a b pins s2 σ H2 x y v u Q I2 rx ry q (hs _ _))
def rIxL (K : PySem.W.Frag) : R2 := fun x y H Q => ∃ p xs i v, x = .ref p ∧ y = .int i ∧ SqL K H p xs ∧ atI xs i = some v ∧ Q v H
def rIxT (K : PySem.W.Frag) : R2 := fun x y H Q => ∃ p xs i v, x = .ref p ∧ y = .int i ∧ SqT K H p xs ∧ atI xs i = some v ∧ Q v H
def rIxS : R2 := fun x y H Q => ∃ z i c, x = .str z ∧ y = .int i ∧ z.length ≤ sizeLine ∧ atI z.cps.toList i = some c ∧ Q (.str ⟨#[c]⟩) H
theorem ix_list : IxR X (rIxL X.K) := by
  intro value slice pins s σ H x y v u Q I rx ry h hs
  obtain ⟨p, xs, i, z, rfl, rfl, hq, he, q⟩ := h
  cases rx
  obtain ⟨t, rfl⟩ := ry
  obtain ⟨its, r, pl, hz⟩ := I.list hq
  obtain ⟨j, h1, h2, h3, h4, h5⟩ := atI_get he
  obtain ⟨w, ew, rw'⟩ := r.get h2
  have hl := r.length
  have hn := line63
  have fin : EP X pins σ Q w s := ⟨z, H, I, rw', q⟩
  by_cases h0 : 0 ≤ i
  · have hj : i.toNat = j := by
      rw [seqIndex_of h0 h5] at h1
      exact Option.some.inj h1
    exact item_listR pl.isList h0 (by omega) (by rw [hj]; simpa using ew) fin hs
  · have hj : (i + (its.toArray.size : Int)).toNat = j := by
      rw [seqIndex_neg (by omega) h4] at h1
      rw [List.size_toArray, ← hl]
      exact Option.some.inj h1
    exact subscriptTail_builtinR (x := w) pl.isList.typeIs slot_list_getitem.lookup
      (wpAny_getItem_list_neg (Q := fun r s' => r = w ∧ EP X pins σ Q r s') pl.isList (by omega) (by rw [List.size_toArray] <;> omega) (by omega) (by rw [hj]; simpa using ew) ⟨rfl, fin⟩) hs
theorem ix_tup : IxR X (rIxT X.K) := by
  intro value slice pins s σ H x y v u Q I rx ry h hs
  obtain ⟨p, xs, i, z, rfl, rfl, hq, he, q⟩ := h
  cases rx
  obtain ⟨t, rfl⟩ := ry
  obtain ⟨its, r, pl, hz⟩ := I.tuple hq
  obtain ⟨j, h1, h2, h3, h4, h5⟩ := atI_get he
  obtain ⟨w, ew, rw'⟩ := r.get h2
  have hl := r.length
  have hn := line63
  have fin : EP X pins σ Q w s := ⟨z, H, I, rw', q⟩
  exact subscriptTail_builtinR (x := w) pl.typeIs slot_tuple_getitem.lookup
    (getItem_tuple (j := j) (Q := fun r s' => r = w ∧ EP X pins σ Q r s') pl (by omega) (by omega) (by rw [List.size_toArray, ← hl]; exact h1) (by simpa using ew) ⟨rfl, fin⟩) hs
theorem ix_str : IxR X rIxS := by
  intro value slice pins s σ H x y v u Q I rx ry h hs
  obtain ⟨z, i, c, rfl, rfl, hz, he, q⟩ := h
  obtain ⟨t, rfl⟩ := rx
  obtain ⟨t', rfl⟩ := ry
  obtain ⟨j, h1, h2, h3, h4, h5⟩ := atI_get he
  have hl : z.cps.toList.length = z.length := by simp [Str.length]
  rw [hl] at h1 h4 h5
  have hn := line63
  exact tail_any (typeIs_str s z t) slot_str_getitem.lookup (getItem_str (c := c) (by
    have e1 : decide (i < -(2 ^ 63 : Int)) = false := decide_eq_false (by omega)
    have e2 : decide (i ≥ 2 ^ 63) = false := decide_eq_false (by omega)
    rw [e1, e2, Bool.or_false]) (by rw [h1]; simpa using h2) ⟨.str ⟨#[c]⟩, H, I.tok _, ⟨_, rfl⟩, q⟩) hs
theorem slice_bounds (lo hi : Option Int) (n : Nat) : (sliceBounds lo hi none n).1 = ((HT.sIx n 0 lo : Nat) : Int) ∧ (sliceBounds lo hi none n).2.1 = ((HT.sIx n n hi : Nat) : Int) ∧ (sliceBounds lo hi none n).2.2 = 1 := by
  refine ⟨?_, ?_, rfl⟩
  · cases lo with
    | none => simp [sliceBounds, HT.sIx]
    | some i =>
      simp only [sliceBounds, HT.sIx, Option.getD_none, show (1 : Int) > 0 by decide, if_true]
      by_cases h : i < 0
      · simp only [h, if_true] <;> omega
      · simp only [h, if_false] <;> omega
  · cases hi with
    | none => simp [sliceBounds, HT.sIx]
    | some i =>
      simp only [sliceBounds, HT.sIx, Option.getD_none, show (1 : Int) > 0 by decide, if_true]
      by_cases h : i < 0
      · simp only [h, if_true] <;> omega
      · simp only [h, if_false] <;> omega
theorem slicePick_cut (its : List Value) (lo hi : Option Int) : slicePick its.toArray lo hi none = ((its.drop (HT.sIx its.length 0 lo)).take (HT.sIx its.length its.length hi - HT.sIx its.length 0 lo)).toArray := by
  obtain ⟨h1, h2, h3⟩ := slice_bounds lo hi its.toArray.size
  unfold slicePick
  rw [h1, h2, h3]
  simp only [sliceRange_one, pick_run, List.size_toArray] <;> rfl
def rSlL (K : PySem.W.Frag) : V → Option Int → Option Int → Hp → VK → Prop := fun x lo hi H Q => ∃ a xs, x = .ref a ∧ SqL K H a xs ∧ ∀ p, H p = none → Q (.ref p) (upd H p (.lst (cutV xs lo hi)))
theorem sl_list : SlR X (rSlL X.K) := by
  intro pins s σ H x v vl vu lo hi sl Q I rx hs pl pu h
  obtain ⟨a, xs, rfl, hx, q⟩ := h
  cases rx
  obtain ⟨its, r, ht, hz⟩ := I.list hx
  have hlen := r.length
  refine ⟨"list", _, slot_list_getitem.lookup, ht.isList.typeIs, ?_⟩
  refine wpAny_getItem_list_slice ht.isList hs pl pu .none (by simp) ?_ (by rw [List.size_toArray] <;> omega)
  rw [slicePick_cut, ← hlen]
  refine ⟨.ref s.heap.objs.size, _, I.laid (t' := s.toks) (o := .lst (cutV xs lo hi)) (fun b ob q => Heap.get?_push_of_some _ q) (Nat.le_refl _) ?_, rfl, q _ (I.hok.fresh (Nat.le_refl _))⟩
  exact ⟨Nat.le_trans (cutV_length xs lo hi) hz, _, 0, (r.drop (HT.sIx xs.length 0 lo)).take (HT.sIx xs.length xs.length hi - HT.sIx xs.length 0 lo), Heap.get?_push_size _ rfl⟩
def flatV : V → Bool
  | .non => true
  | .bl _ => true
  | .int _ => true
  | .str _ => true
  | _ => false
def eqV : V → V → Bool
  | .non, .non => true
  | .bl a, .bl b => a == b
  | .bl a, .int b => (if a then 1 else 0) == b
  | .int a, .bl b => a == (if b then 1 else 0)
  | .int a, .int b => a == b
  | .str a, .str b => a == b
  | _, _ => false
theorem eqAt_V {A : Around} {s : Shared} {y x : V} {u v : Value} (ry : RelV y u) (rx : RelV x v) (fy : flatV y = true) (fx : flatV x = true) : SeqAt.EqAt A s u v (eqV y x) := by
  cases y with
  | non =>
    cases ry
    cases x with
    | non => cases rx; exact SeqAt.EqAt.same _
    | bl b => cases rx; exact SeqAt.EqAt.none_bool b
    | int b => obtain ⟨t, rfl⟩ := rx; exact SeqAt.EqAt.none_int b t
    | str b => obtain ⟨t, rfl⟩ := rx; exact SeqAt.EqAt.none_str b t
    | _ => exact absurd (show false = true from fx) Bool.false_ne_true
  | bl a =>
    cases ry
    cases x with
    | non => cases rx; exact SeqAt.EqAt.bool_none a
    | bl b => cases rx; exact SeqAt.EqAt.bool_bool a b
    | int b => obtain ⟨t, rfl⟩ := rx; exact SeqAt.EqAt.bool_int a b t
    | str b => obtain ⟨t, rfl⟩ := rx; exact SeqAt.EqAt.bool_str a b t
    | _ => exact absurd (show false = true from fx) Bool.false_ne_true
  | int a =>
    obtain ⟨t', rfl⟩ := ry
    cases x with
    | non => cases rx; exact SeqAt.EqAt.int_none a t'
    | bl b => cases rx; exact SeqAt.EqAt.int_bool a t' b
    | int b => obtain ⟨t, rfl⟩ := rx; exact SeqAt.EqAt.int_int a t' b t
    | str b => obtain ⟨t, rfl⟩ := rx; exact SeqAt.EqAt.int_str a t' b t
    | _ => exact absurd (show false = true from fx) Bool.false_ne_true
  | str a =>
    obtain ⟨t', rfl⟩ := ry
    cases x with
    | non => cases rx; exact SeqAt.EqAt.str_none a t'
    | bl b => cases rx; exact SeqAt.EqAt.str_bool a t' b
    | int b => obtain ⟨t, rfl⟩ := rx; exact SeqAt.EqAt.str_int a t' b t
    | str b => obtain ⟨t, rfl⟩ := rx; exact SeqAt.EqAt.str_str a t' b t
    | _ => exact absurd (show false = true from fx) Bool.false_ne_true
  | _ => exact absurd (show false = true from fy) Bool.false_ne_true
theorem call_len_seq : CallR X (.builtin "len") (fun xs H Q => ∃ p ys, xs = [.ref p] ∧ (SqL X.K H p ys ∨ SqT X.K H p ys) ∧ Q (.int ys.length) H) := by
  intro pins s σ H xs us Q I r h
  obtain ⟨p, ys, rfl, hq, q⟩ := h
  obtain ⟨u, rfl, rx⟩ := vals1 r
  cases rx
  have hn := line63
  rcases hq with hq | hq
  · obtain ⟨its, r', pl, hz⟩ := I.list hq
    have hlen := r'.length
    exact Calls.call_len_list pl.isList (by simp only [List.size_toArray] <;> omega) ⟨.int ys.length, H, I.tok _, ⟨s.toks + 1, by rw [List.size_toArray, hlen]⟩, q⟩
  · obtain ⟨its, r', pl, hz⟩ := I.tuple hq
    have hlen := r'.length
    exact len_tuple pl (by simp only [List.size_toArray] <;> omega) ⟨.int ys.length, H, I.tok _, ⟨s.toks + 1, by rw [List.size_toArray, hlen]⟩, q⟩
theorem call_len_str : CallR X (.builtin "len") (fun xs H Q => ∃ z, xs = [.str z] ∧ z.length ≤ sizeLine ∧ Q (.int z.length) H) := by
  intro pins s σ H xs us Q I r h
  obtain ⟨z, rfl, hz, q⟩ := h
  obtain ⟨u, rfl, t, rfl⟩ := vals1 r
  have hn := line63
  exact len_str (by omega) ⟨.int z.length, H, I.tok _, ⟨_, rfl⟩, q⟩
theorem call_list_of : CallR X (.type "list") (fun xs H Q => ∃ p ys, xs = [.ref p] ∧ (SqL X.K H p ys ∨ SqT X.K H p ys) ∧ ∀ l, H l = none → Q (.ref l) (upd H l (.lst ys))) := by
  intro pins s σ H xs us Q I r h
  obtain ⟨p, ys, rfl, hq, q⟩ := h
  obtain ⟨u, rfl, rx⟩ := vals1 r
  cases rx
  have fin : ∀ (its : List Value), Vals ys its → ys.length ≤ sizeLine → ∀ (h' : Heap) (c' : Nat), (∀ b o', s.heap.get? b = some o' → h'.get? b = some o') →
      h'.get? s.heap.objs.size = some { cls := .type "list", dict := none, data := .seq its.toArray c', slots := #[] } → EP X pins σ Q (.ref s.heap.objs.size) { s with heap := h' } := fun its r' hz h' c' kp e =>
    ⟨.ref s.heap.objs.size, _, I.laid (t' := s.toks) kp (Nat.le_refl _) (show ObjOk X.prog X.w _ h' _ (.lst ys) from ⟨hz, its, c', r', e⟩), rfl, q _ (I.hok.fresh (Nat.le_refl _))⟩
  rcases hq with hq | hq
  · obtain ⟨its, r', pl, hz⟩ := I.list hq
    have hlen := r'.length
    obtain ⟨o, ho, hc, n, hd⟩ := pl.isList
    exact call_list_seq p (.inl rfl) ho hc hd (fun h' c' kp e => fin its r' hz h' c' kp e) (by simp only [List.size_toArray] <;> omega)
  · obtain ⟨its, r', pl, hz⟩ := I.tuple hq
    have hlen := r'.length
    obtain ⟨o, ho, hc, n, hd⟩ := pl
    exact call_list_seq p (.inr rfl) ho hc hd (fun h' c' kp e => fin its r' hz h' c' kp e) (by simp only [List.size_toArray] <;> omega)
def tyV (K : PySem.W.Frag) (T : String) (x : V) (H : Hp) : Prop := match x with
  | .str _ => T = "str"
  | .int _ => T = "int"
  | .ref p => (T = "list" ∧ ∃ xs, SqL K H p xs) ∨ (T = "tuple" ∧ ∃ o, K.lookup p = some o ∧ o.cls = .type "tuple" ∧ o.dict = none) ∨
      (T = "dict" ∧ ((∃ kvs, H p = some (.dK kvs)) ∨ ∃ kvs, H p = some (.dT kvs))) ∨ (T = "set" ∧ ∃ S n, H p = some (.set S n))
  | _ => False
theorem tyV_is {pins : List (Addr × Obj)} {σ : St} {H : Hp} {s : Shared} {T : String} {x : V} {v : Value} (I : Inv X pins σ H s) (r : RelV x v) (ty : tyV X.K T x H) :
    s.TypeIs v T ∧ ∀ a, v = .ref a → ∃ ob, s.heap.get? a = some ob ∧ ob.dict = none := by
  cases x with
  | str z =>
    obtain ⟨t, rfl⟩ := r
    cases (show T = "str" from ty)
    exact ⟨typeIs_str s z t, fun _ e => nomatch e⟩
  | int i =>
    obtain ⟨t, rfl⟩ := r
    cases (show T = "int" from ty)
    exact ⟨typeIs_int s i t, fun _ e => nomatch e⟩
  | ref p =>
    cases r
    rcases ty with ⟨rfl, xs, hq⟩ | ⟨rfl, o, hk, hc, hd⟩ | ⟨rfl, hk⟩ | ⟨rfl, S, n, hk⟩
    · obtain ⟨its, _, pl, _⟩ := I.list hq
      refine ⟨pl.isList.typeIs, fun a e => ?_⟩
      cases e
      obtain ⟨o, n, e, c, hd, _⟩ := pl
      exact ⟨o, e, hd⟩
    · refine ⟨⟨o, I.kIn p o hk, hc⟩, fun a e => ?_⟩
      cases e
      exact ⟨o, I.kIn _ o hk, hd⟩
    · have z : ∃ o, s.heap.get? p = some o ∧ o.ExactDict := by
        rcases hk with ⟨kvs, hk⟩ | ⟨kvs, hk⟩
        · obtain ⟨_, _, _, _, o, _, _, e, ex, _⟩ := I.hok p _ hk
          exact ⟨o, e, ex⟩
        · obtain ⟨_, _, _, _, o, _, _, e, ex, _⟩ := I.hok p _ hk
          exact ⟨o, e, ex⟩
      obtain ⟨o, e, ex⟩ := z
      refine ⟨⟨o, e, ex.1⟩, fun a e2 => ?_⟩
      cases e2
      exact ⟨o, e, ex.2.1⟩
    · obtain ⟨o, _, _, _, e, ex, _⟩ := I.hok p _ hk
      refine ⟨⟨o, e, ex.1⟩, fun a e2 => ?_⟩
      cases e2
      exact ⟨o, e, ex.2.1⟩
  | _ => exact False.elim ty
def tBM (K : PySem.W.Frag) (T : String) (r : V → List V → Hp → VK → Prop) (to : TE) (t : TA) : TE := fun σ H Q => to σ H fun x H1 => tyV K T x H1 ∧ t σ H1 fun xs H2 => r x xs H2 Q
variable {o e : Expr} {es : List Expr} {to : TE} {t : TA} {name : Str} {apos cpos : Pos} {T id : String} {r : V → List V → Hp → VK → Prop}
theorem pe_bm (pa : PlainAttrs T) (slot : Slot T name id) (hty : typeOf (.builtin id) = pure (.type "method_descriptor")) (hm : MtR X id r) (ho : PE X o to) (ha : PA X (e :: es) t)
    (hbase : attributeBase o name X.env (eval o X.env) = eval o X.env := by rfl)
    (hfew : ((backTo cpos (starEach (e :: es) X.env)).all (fun x => !x.1) && (backToKw cpos (keywordEach [] X.env)).all (fun x => x.1.isSome)
      && decide ((e :: es).length + ([] : List Keyword).length + (if ([] : List Keyword).isEmpty then 0 else 1) < 30)) = true := by rfl)
    (hline : (apos.endLine == cpos.line) = true := by rfl) (hs : starEach (e :: es) X.env = (false, eval e X.env) :: starEach es X.env := by rfl) (hplain : (backTo cpos (starEach es X.env)).any (·.1) = false := by rfl) :
    PE X (.Call (.Attribute o name apos) (e :: es) [] cpos) (tBM X.K T r to t) := by
  intro pins s σ H Q I h
  refine wpAny_Call_method_late hbase hfew hline rfl (thn (ho pins s σ H _ I h) fun v s1 ⟨x, H1, I1, r1, ty, q1⟩ => ?_)
  obtain ⟨h1, h2⟩ := tyV_is I1 r1 ty
  refine ⟨T, id, pa, slot, hty, h1, h2, ?_⟩
  have hA := ha cpos pins s1 σ H1 _ I1 q1
  rw [hs] at hA ⊢
  refine Calls.callWith_builtin (by show (false || (backTo cpos (starEach es X.env)).any (·.1)) = false; rw [hplain] <;> rfl) (Calls.evalArgs_plain ?_)
  exact thn hA fun us s2 ⟨vs, H2, I2, r2, q2⟩ => hm pins s2 σ H2 x vs v us Q I2 r1 r2 q2
end
end L2
namespace L2
open PySem PySem.Spec PyProof.Rows
def MtM (X : Cx) (id : String) (r : V → List V → Hp → VK → Prop) : Prop :=
  ∀ (pins : List (Addr × Obj)) (s : Shared) (σ : St) (H : Hp) (x : V) (xs : List V) (v : Value) (us : List Value) (Q : VK), Inv X pins σ H s → RelV x v → Vals xs us → r x xs H Q →
    wpAny (model X.prog X.w) X.A (call (.builtin id) (v :: us)) (EP X pins σ Q) X.xe s
theorem Vals.one : ∀ {x : V} {us : List Value}, Vals [x] us → ∃ u, us = [u] ∧ RelV x u
  | _, _, .cons r .nil => ⟨_, rfl, r⟩
section
variable {X : Cx} {pins : List (Addr × Obj)} {σ : St} {H : Hp} {s : Shared} {l b : Addr} {xs ys zs : List V}
theorem Inv.lset {its its' : List Value} {n : Nat} {f : Array Value → Array Value} {t' : Nat} (I : Inv X pins σ H s) (hH : H l = some (.lst xs))
    (e : s.heap.get? l = some { cls := .type "list", data := .seq its.toArray n }) (hf : f its.toArray = its'.toArray) (hv : Vals ys its') (hz : ys.length ≤ sizeLine) :
    Inv X pins σ (upd H l (.lst ys)) { s with heap := s.heap.update l (Obj.mapSeq f), toks := t' } := by
  have q := PySem.IsL.update e f
  rw [hf] at q
  refine I.write (x := l) (e := l) (by rw [hH]; exact trivial) (.inl rfl) (fun b' u hb hu => (Heap.get?_update_other s.heap (Obj.mapSeq f) (Ne.symm hb)).trans hu) ⟨_, q⟩ ?_
  exact ⟨hz, its', _, hv, q⟩
theorem Inv.lnew {its : List Value} {t' : Nat} (I : Inv X pins σ H s) (hv : Vals ys its) (hz : ys.length ≤ sizeLine) :
    Inv X pins σ (upd H s.heap.objs.size (.lst ys)) { s with heap := s.heap.push { cls := .type "list", data := .seq its.toArray }, toks := t' } :=
  I.laid (fun _ _ q => Heap.get?_push_of_some _ q) (Nat.le_refl _) ⟨hz, its, 0, hv, Heap.get?_push_size _ rfl⟩
theorem Inv.fresh (I : Inv X pins σ H s) : H s.heap.objs.size = none := I.hok.fresh (Nat.le_refl _)
theorem Inv.lstM (I : Inv X pins σ H s) (hH : H l = some (.lst xs)) : xs.length ≤ sizeLine ∧ ∃ (its : List Value) (n : Nat), Vals xs its ∧ xs.length = its.length ∧ s.heap.get? l = some { cls := .type "list", data := .seq its.toArray n } := by
  obtain ⟨z, its, n, r, e⟩ := I.hok l _ hH
  exact ⟨z, its, n, r, r.length, e⟩
end
section
variable {X : Cx}
def rAppend : V → List V → Hp → VK → Prop := fun x vs H Q => ∃ l xs y, x = .ref l ∧ vs = [y] ∧ H l = some (.lst xs) ∧ xs.length < sizeLine ∧ Q .non (upd H l (.lst (xs ++ [y])))
theorem mt_append : MtM X "list.append" rAppend := by
  intro pins s σ H x vs v us Q I rx rv h
  obtain ⟨l, xs, y, rfl, rfl, hH, hz, q⟩ := h
  cases rx
  obtain ⟨u, rfl, ru⟩ := rv.one
  obtain ⟨z, its, n, r, hl, e⟩ := I.lstM hH
  refine call_meets F.slot_list_append ⟨_, e, rfl⟩ F.entry_list_append (F.args_list_append_2 _ _) (PySem.list_append l its.toArray n u (by rw [List.size_toArray]; omega)) ⟨e, ?_⟩
  refine ⟨.non, _, I.lset (its' := its ++ [u]) hH e (by simp) (r.append (.cons ru .nil)) ?_, rfl, q⟩
  rw [List.length_append, List.length_singleton]
  omega
def rCat : R2 := fun x y H Q => ∃ l b xs zs, x = .ref l ∧ y = .ref b ∧ H l = some (.lst xs) ∧ H b = some (.lst zs) ∧ xs.length + zs.length ≤ sizeLine ∧ ∀ p, H p = none → Q (.ref p) (upd H p (.lst (xs ++ zs)))
theorem op_cat : OpR X (binaryOp .Add) rCat := by
  intro pins s σ H x y v u Q I rx ry h
  obtain ⟨l, b, xs, zs, rfl, rfl, hH, hB, hz, q⟩ := h
  cases rx
  cases ry
  obtain ⟨z, its, n, r, hl, e⟩ := I.lstM hH
  obtain ⟨z2, its2, n2, r2, hl2, e2⟩ := I.lstM hB
  refine PySem.P.add_list e e2 ?_ (by rw [List.size_toArray, List.size_toArray]; omega)
  have ea : its.toArray ++ its2.toArray = (its ++ its2).toArray := by simp
  rw [ea]
  exact ⟨.ref _, _, I.lnew (t' := s.toks) (r.append r2) (by rw [List.length_append]; omega), rfl, q _ I.fresh⟩
end
section
variable {prog : Program} {w : World} {A : Around} {E : Value → Shared → Prop} {s : Shared}
end
section
variable {X : Cx}
end
end L2
namespace Att
open PySem PySem.W PySem.Calls PyProof.Rows
theorem ints_of_wellAll {P : Params} {h : Heap} : ∀ (ns : List Int) (vs : List Value), WellAll P h vs (ns.map WData.int) → IntsAre vs ns := by
  intro ns
  induction ns with
  | nil =>
    intro vs w
    rw [List.map_nil] at w
    cases w
    exact .nil
  | cons n ns ih =>
    intro vs w
    rw [List.map_cons] at w
    cases w with
    | cons a b =>
      cases a
      exact .cons _ _ (ih _ b)
theorem script_of {l : OpenLaw} {n : Nat} (hn : l.most = some n) {P : Params} {h : Heap} {args : List WData} {vals : List Value}
    (hpre : l.row.toRowW.claim.pre args = true) (hwl : WellAll P h vals args) :
    ∃ a vs ns, vals = [Value.ref a] ∧ args = [WData.list (ns.map WData.int)] ∧ h.get? a = some { cls := .type "list", data := .seq vs.toArray } ∧ IntsAre vs ns ∧ ns.length ≤ n := by
  have hsh : WShape.hasAll [] args [.list .int] = true := (pre_splitW hpre).1
  have hc : l.pre.holds [] { args := args } = true := (pre_splitW hpre).2
  obtain ⟨d, r, rfl, h1, h2⟩ := hasAllW_cons hsh
  obtain rfl := hasAllW_nil h2
  obtain ⟨xs, rfl, h3⟩ := hasW_list h1
  obtain ⟨ns, rfl⟩ := items_int h3
  have hlen : ns.length ≤ n := by
    unfold OpenLaw.pre at hc
    have h4 : (WTm.not (.lt (.lit (.int (n : Int))) (.len (.arg 0)))).holds [] { args := [.list (ns.map .int)] } = true := by
      have h4 := (holds_andW hc).1
      rw [hn] at h4
      exact h4
    have h5 := condW_of h4 (w_not (w_lt w_lit (w_len_list (w_arg rfl))))
    rw [List.length_map] at h5
    refine Nat.le_of_not_lt fun q => ?_
    have q' : (n : Int) < ((ns.length : Nat) : Int) := by omega
    first
      | (rw [decide_eq_true q'] at h5; exact absurd h5 (by decide))
      | (simp at h5; omega)
  cases hwl with
  | cons w1 w2 =>
    cases w2
    cases w1 with
    | list ho hall => exact ⟨_, _, ns, rfl, rfl, ho, ints_of_wellAll ns _ hall, hlen⟩
theorem post_true (l : OpenLaw) (args : List WData) : l.row.toRowW.claim.post args (.bool true) args = true :=
  postW_of (r := l.row.toRowW) (X := (true == true))
    (show WShape.has [] (.bool true) .bool = true by first | rfl | decide | simp [WShape.has, WShape.arms, WShape.armsAll])
    (show (WTm.eq .res (.lit (.bool true))).value [] { args := args, res := some (.bool true), after := args } = some (.bool (true == true)) from w_eq_bool (w_res rfl) w_lit) rfl
theorem attach_call {l : OpenLaw} {n : Nat} {q : Program} {loose : List Str} {XP : (Str → Option Value) → Heap → Prop} {YP : World → Heap → Prop} {d : DefRec}
    (hn : l.most = some n) (hdf : d.params.defaults = [])
    (call : ∀ (w : World) (s₀ s₁ : Shared) (mg mb : Str → Option Value) (fa : Addr) (o : Obj) (pm cd doc : Value) (a : Addr) (vs : List Value) (ns : List Int),
      Ground q loose [] XP w s₀ mg mb s₁.heap → YP w s₁.heap →
      s₁.heap.get? fa = some o → o.data = .func (docDef d.name d.params d.body d.scope pm cd doc) → s₁.heap.CodeRec cd d.name → mg d.name = some (.ref fa) →
      s₁.heap.get? a = some { cls := .type "list", data := .seq vs.toArray } → IntsAre vs ns → ns.length ≤ n → s₁.gens = #[] →
      codeAny (model l.prog w) callerA (.call (.ref fa) ⟨[.ref a], []⟩) (fun r s' => r = .ok (.ret (.bool true)) ∧ OldK s₁.heap s'.heap ∧ s'.os = s₁.os ∧ AllBare s'.gens) s₁) :
    WalkO q loose XP YP l.row.toRowW d [] (fun f vs => PySem.call f vs) := by
  intro w s₀ s₁ mg mb G Y fa o pm cd doc dV kV ho hd hcd hD hmg hg args vals as hpre hlay hrd hwl hlo
  obtain rfl : dV = .none := Dflts.none hD hdf
  obtain rfl : kV = .none := Dflts.noKw hD
  obtain ⟨a, vs, ns, rfl, rfl, hobj, hints, hlen⟩ := script_of hn hpre hwl
  refine enter_call (codeAny_mono (call w s₀ s₁ mg mb fa o pm cd doc a vs ns G Y ho (fd_plain hd) hcd hmg hobj hints hlen hg) fun r s' hq => ?_)
  obtain ⟨rfl, h2, h3, h4⟩ := hq
  exact ⟨.inl ⟨.bool true, .bool true, [], rfl, fun _ => rfl, .bool true, post_true l _, fun _ => ⟨List.Pairwise.nil, fun _ hm => (nomatch hm)⟩⟩, h2, h3, h4⟩
section
variable {prog : Program} {w : World} {A : Around} {E : Value → Shared → Prop} {s : Shared} {K : Frag}
end
end Att
namespace L2
open PySem PySem.Spec PyProof.Rows
theorem vals_ints : ∀ {vs : List Value} {ns : List Int}, IntsAre vs ns → Vals (ns.map V.int) vs
  | _, _, .nil => .nil
  | _, _, .cons n t h => .cons ⟨t, rfl⟩ (vals_ints h)
def Only (H : Hp) : Prop := ∀ b, H b = none ∨ ∃ o xs, H b = some (.frz o (.lst xs))
theorem law_call {P : Program} {w : World} {K : PySem.W.Frag} {mg mb : Str → Option Value} {CX : CXT} {k : Nat} {fa a : Addr} {fd : FuncData} {x : Str} {sp : Sp} {s₁ : Shared} {vs : List Value} {ns : List Int}
    (KX : K.In s₁.heap) (hns : s₁.heap.Ns mainGlobals mg) (hb : s₁.heap.Ns builtinsNs mb) (hbb : ∀ x : Str, x ≠ "__name__" → mb x = bootBuiltins x) (hlim : s₁.heap.NoLimit) (hg : s₁.gens = #[])
    (ha : s₁.heap.get? a = some { cls := .type "list", data := .seq vs.toArray }) (hi : IntsAre vs ns) (hl : ns.length ≤ sizeLine) (hr : Room k callerA)
    (F : ∀ base : Heap, K.In base → base.Ns mainGlobals mg → FnOk P w K mg base CX k fa fd [x] sp) (hbind : ∀ (s : Shared) (u : Value), BindsTo s fd ⟨[u], []⟩ [(x, u)])
    (hsp : ∀ H : Hp, Only H → SqL K H a (ns.map V.int) → sp [.ref a] H (fun v _ => v = .bl true) fun _ _ _ => False)
    (hCX : ∀ H e s', CX [] H s₁ (fun _ _ _ => False) e s' → False) :
    codeAny (model P w) callerA (.call (.ref fa) ⟨[.ref a], []⟩) (fun r s' => r = .ok (.ret (.bool true)) ∧ OldK s₁.heap s'.heap ∧ s'.os = s₁.os ∧ AllBare s'.gens) s₁ := by
  have rv := vals_ints hi
  have lenV := hi.length
  -- from an abstract heap in which nothing but the script may be tracked
  have core : ∀ H : Hp, Only H → SqL K H a (ns.map V.int) → HOk P w H s₁.heap → (∀ b, H b ≠ none → b = a) → (H a ≠ none → K.lookup a = none) →
      codeAny (model P w) callerA (.call (.ref fa) ⟨[.ref a], []⟩) (fun r s' => r = .ok (.ret (.bool true)) ∧ OldK s₁.heap s'.heap ∧ s'.os = s₁.os ∧ AllBare s'.gens) s₁ := by
    intro H hO hS hok hA hK
    have base_of : ∀ {b : Addr} {o : Obj}, s₁.heap.get? b = some o → H b = none → (hidT s₁.heap H).get? b = some o := fun e n => hidT_get e n
    have noA : ∀ {b : Addr} {o : Obj} {es : Array DictEntry} {ep : Nat}, s₁.heap.get? b = some o → o.data = .dict es ep → H b = none := fun {b o es ep} e d => by
      cases q : H b with
      | none => rfl
      | some u =>
        have e' : b = a := hA b (by rw [q]; simp)
        subst e'
        rw [ha] at e; cases e
        have d' : Data.seq vs.toArray _ = Data.dict es ep := d
        cases d'
    have nsK : ∀ {b : Addr} {m : Str → Option Value}, s₁.heap.Ns b m → (hidT s₁.heap H).Ns b m := fun {b m} ⟨o, es, ep, e, d, r⟩ => ⟨o, es, ep, base_of e (noA e d), d, r⟩
    have hKb : K.In (hidT s₁.heap H) := fun b o e => base_of (KX b o e) (by
      cases q : H b with
      | none => rfl
      | some u =>
        have e' : b = a := hA b (by rw [q]; simp)
        subst e'
        rw [hK (by rw [q]; simp)] at e; cases e)
    have hM : Mod K mg (hidT s₁.heap H) := ⟨hKb, nsK hns, ⟨mb, nsK hb, hbb⟩, let ⟨mc, h1, h2⟩ := hlim; ⟨mc, nsK h1, h2⟩⟩
    have e0 : Env0 P w K mg (hidT s₁.heap H) callerA [] s₁ H := ⟨rfl, hM, fun b o e => of_hidT e, Nat.le_of_eq (hidT_size _ _), trivial, fun b hb => absurd (show b ∈ ([] : List Addr) from hb) (by simp), hok, .of_eq hg⟩
    refine codeAny_mono ((F _ hKb (nsK hns)).run callerA [] s₁ H ⟨[.ref a], []⟩ [.ref a] [.ref a] _ _ hr e0 (hbind s₁ (.ref a)) (.cons rfl .nil) (hsp H hO hS)) fun r s' h => ?_
    cases r with
    | error e => exact (hCX H e s' h).elim
    | ok fl =>
      cases fl with
      | next => exact False.elim h
      | brk => exact False.elim h
      | cont => exact False.elim h
      | ret u =>
        obtain ⟨v, H', os, bare, un, hok', r', q⟩ := h
        have q' : v = .bl true := q
        subst q'
        obtain rfl : u = Value.bool true := r'
        refine ⟨rfl, OldK.of_keep fun b o e => ?_, os, bare⟩
        cases q : H b with
        | none => exact un.keep b o e q (by intro z; exact absurd (show b ∈ ([] : List Addr) from z) (by simp)) (by simp)
        | some u =>
          rcases hO b with z | ⟨ob, xs, z⟩
          · rw [q] at z; cases z
          · have z2 := un.frzs b ob _ z
            obtain ⟨e1, _⟩ := hok b _ z
            obtain ⟨e2, _⟩ := hok' b _ z2
            rw [e] at e1; cases e1
            exact e2
  cases hk : K.lookup a with
  | some o =>
    -- the script is one of the module's own objects
    have e := KX a o hk
    rw [ha] at e
    cases e
    refine core (fun _ => none) (fun _ => .inl rfl) (.inr ⟨_, vs.toArray, _, hk, rfl, rfl, rfl, by rw [List.size_toArray, lenV]; exact hl, by simpa using rv⟩) (fun b u z => by have z' : (none : Option HO) = some u := z; cases z') (fun b z => absurd rfl z) fun z => absurd rfl z
  | none =>
    refine core (fun b => if b = a then some (.frz { cls := .type "list", data := .seq vs.toArray } (.lst (ns.map V.int))) else none) (fun b => ?_) (.inl (.inr ⟨{ cls := .type "list", data := .seq vs.toArray }, if_pos rfl⟩)) (fun b u z => ?_) (fun b z => ?_) fun _ => hk
    · by_cases hb : b = a
      · exact .inr ⟨_, _, if_pos hb⟩
      · exact .inl (if_neg hb)
    · by_cases hb : b = a
      · have z' := (if_pos hb).symm.trans z
        cases z'
        subst hb
        exact ⟨ha, by rw [List.length_map]; exact hl, vs, _, rv, ha⟩
      · have z' := (if_neg hb).symm.trans z
        cases z'
    · by_cases hb : b = a
      · exact hb
      · exact absurd (if_neg hb) z
end L2
namespace L2
open PySem PySem.Spec PyProof.Rows
theorem walk_of {l : PySem.W.OpenLaw} {n k : Nat} {q : Program} {loose : List Str} {XP : (Str → Option Value) → Heap → Prop} {YP : World → Heap → Prop} {d : DefRec} {K : Params → PySem.W.Frag} {CX : World → CXT} {sp : World → Sp} {x : Str}
    (hn : l.most = some n) (hn2 : n ≤ sizeLine) (hdf : d.params.defaults = []) (hr : Room k callerA)
    (hY : ∀ (w : World) (h : Heap), YP w h → (K w.params).In h)
    (F : ∀ (w : World) (mg : Str → Option Value) (fa : Addr) (h : Heap), (K w.params).In h → h.Ns mainGlobals mg → mg d.name = some (.ref fa) →
      ∃ fd : FuncData, (∀ (s : Shared) (u : Value), BindsTo s fd ⟨[u], []⟩ [(x, u)]) ∧
        ∀ base : Heap, (K w.params).In base → base.Ns mainGlobals mg → FnOk l.prog w (K w.params) mg base (CX w) k fa fd [x] (sp w))
    (hsp : ∀ (w : World) (H : Hp) (a : Addr) (ns : List Int), ns.length ≤ n → Only H → SqL (K w.params) H a (ns.map V.int) → sp w [.ref a] H (fun v _ => v = .bl true) fun _ _ _ => False)
    (hCX : ∀ (w : World) (H : Hp) (s : Shared) (e : Value) (s' : Shared), CX w [] H s (fun _ _ _ => False) e s' → False) :
    PySem.W.WalkO q loose XP YP l.row.toRowW d [] (fun f vs => PySem.call f vs) := by
  refine Att.attach_call hn hdf fun w s₀ s₁ mg mb fa o pm cd doc a vs ns G Y ho hd hcd hmg hobj hints hlen hg => ?_
  have KX := hY w _ Y
  obtain ⟨fd, hb, hF⟩ := F w mg fa _ KX G.T.g hmg
  exact law_call KX G.T.g G.T.b G.T.builtins G.T.nolimit hg hobj hints (Nat.le_trans hlen hn2) hr hF hb (fun H hO hS => hsp w H a ns hlen hO hS) fun H e s' => hCX w H s₁ e s'
theorem walk_ofK {l : PySem.W.OpenLaw} {n k : Nat} {q : Program} {loose : List Str} {XP : (Str → Option Value) → Heap → Prop} {YP : World → Heap → Prop} {d : DefRec} {K : Params → PySem.W.Frag} {CX : CXT} {sp : PySem.W.Frag → Sp} {x : Str}
    (hn : l.most = some n) (hn2 : n ≤ sizeLine) (hdf : d.params.defaults = []) (hr : Room k callerA)
    (hY : ∀ (w : World) (h : Heap), YP w h → (K w.params).In h)
    (F : ∀ (w : World) (mg : Str → Option Value) (fa : Addr) (h : Heap), (K w.params).In h → h.Ns mainGlobals mg → mg d.name = some (.ref fa) →
      ∃ fd : FuncData, (∀ (s : Shared) (u : Value), BindsTo s fd ⟨[u], []⟩ [(x, u)]) ∧
        ∀ base : Heap, (K w.params).In base → base.Ns mainGlobals mg → FnOk l.prog w (K w.params) mg base CX k fa fd [x] (sp (K w.params)))
    (hsp : ∀ (K : PySem.W.Frag) (H : Hp) (a : Addr) (ns : List Int), ns.length ≤ n → Only H → SqL K H a (ns.map V.int) → sp K [.ref a] H (fun v _ => v = .bl true) fun _ _ _ => False)
    (hCX : ∀ (H : Hp) (s : Shared) (e : Value) (s' : Shared), CX [] H s (fun _ _ _ => False) e s' → False) :
    PySem.W.WalkO q loose XP YP l.row.toRowW d [] (fun f vs => PySem.call f vs) :=
  walk_of (K := K) (CX := fun _ => CX) (sp := fun w => sp (K w.params)) hn hn2 hdf hr hY F (fun w H a ns h1 h2 h3 => hsp (K w.params) H a ns h1 h2 h3) fun _ H s e s' => hCX H s e s'
end L2
namespace L2
open PySem PySem.Spec PyProof.Rows
def defArgs (s : Stmt) : Arguments := match s with
  | .FunctionDef _ a _ _ _ _ _ _ _ _ => a
  | _ => { posonlyargs := [], args := [], vararg := none, kwonlyargs := [], kw_defaults := [], kwarg := none, defaults := [] }
def defBody (s : Stmt) : List Stmt := match s with
  | .FunctionDef _ _ b _ _ _ _ _ _ _ => b
  | _ => []
def defScope (s : Stmt) : Scope := match s with
  | .FunctionDef _ _ _ _ _ _ sc _ _ _ => sc
  | _ => { kind := .function, names := [], isGenerator := false, isCoroutine := false }
abbrev CX0 : CXT := fun _ _ _ _ _ _ => False
abbrev E0 : XK := fun _ _ _ => False
theorem pass0 {X : Cx} : Passes CX0 X E0 := fun _ _ _ _ _ _ _ h => h.elim
structure Fun (K : PySem.W.Frag) (x qual : Str) (st : Stmt) (f : Addr) (fd : FuncData) : Prop where
  ex : ∃ (oc : Value) (od : Option Addr) (kV doc pm : Value) (an : Option Addr) (cdv ct : Value) (osl : Array (Option Value)),
    fd = PySem.W.fnOf x qual (defArgs st) (defBody st) (defScope st) .none kV doc pm an cdv ct ∧ K.lookup f = some ⟨oc, od, .func fd, osl⟩ ∧ PySem.W.codeIn K cdv qual = true
  kp : PySem.W.keepIn K (.ref f) = true
section
variable {P : Program} {w : World} {K : PySem.W.Frag} {mg : Str → Option Value} {base : Heap}
theorem Fun.ok {x qual : Str} {st : Stmt} {f : Addr} {fd : FuncData} {N ps : List Str} {k : Nat} {sp : Sp} (F : Fun K x qual st f fd) (S : FnScope N ps (defScope st)) (len : ∀ vs H Q E, sp vs H Q E → vs.length = ps.length)
    (hbody : ∀ (cdv : Value) (A : Around) (outer : List Env) (s : Shared) (H : Hp) (vs : List V) (Q : VK) (E : XK), Room k (A.deeper (envOfC qual (defScope st) s.heap.objs.size f cdv)) → sp vs H Q E →
      ∃ t, PSs (cxOf CX0 P w K mg base N qual (defScope st) f cdv A outer s H E).nox (defBody st) t ∧ t { nx := fun _ H' => Q .non H', rt := Q } (start N vs) H) : FnOk P w K mg base CX0 (k + 1) f fd ps sp := by
  obtain ⟨oc, od, kV, doc, pm, an, cdv, ct, osl, rfl, lk, hcd⟩ := F.ex
  refine fn_of lk hcd S len fun A outer s H vs Q E hr hsp => ?_
  obtain ⟨t, h, q⟩ := hbody cdv A outer s H vs Q E hr hsp
  exact ⟨t, h.nox, q⟩
theorem Fun.binds {x qual : Str} {st : Stmt} {f : Addr} {fd : FuncData} {ps : List Str} (F : Fun K x qual st f fd)
    (h : ∀ (kV doc pm : Value) (an : Option Addr) (cdv ct : Value) (us : List Value), us.length = ps.length → bindArgs (PySem.W.fnOf x qual (defArgs st) (defBody st) (defScope st) .none kV doc pm an cdv ct) ⟨us, []⟩ = pure (ps.zip us)) : Binds K fd ps [] := by
  obtain ⟨oc, od, kV, doc, pm, an, cdv, ct, osl, rfl, lk, hcd⟩ := F.ex
  exact .all (h kV doc pm an cdv ct)
theorem fun_mk {x qual : Str} {st : Stmt} {f : Addr} {oc : Value} {od an : Option Addr} {osl : Array (Option Value)} {kV doc pm cdv ct : Value} (l : K.lookup f = some ⟨oc, od, .func (PySem.W.fnOf x qual (defArgs st) (defBody st) (defScope st) .none kV doc pm an cdv ct), osl⟩)
    (c : PySem.W.codeIn K cdv qual = true) (k : PySem.W.keepIn K (.ref f) = true) : Fun K x qual st f (PySem.W.fnOf x qual (defArgs st) (defBody st) (defScope st) .none kV doc pm an cdv ct) := ⟨⟨oc, od, kV, doc, pm, an, cdv, ct, osl, rfl, l, c⟩, k⟩
end
section
variable {X : Cx}
theorem pv (i : Nat) {x : Str} {pos : Pos} (hN : X.N[i]? = some x := by rfl) (hv : Vis X.env.scope x := by first | exact Or.inl rfl | exact Or.inr (Or.inl rfl) | exact Or.inr (Or.inr rfl)) (hd : (x == ("__debug__" : Str)) = false := by decide)
    (hcd : (x == ("__classdict__" : Str)) = false := by decide) : PE X (.Name x pos) (tVar i) := pe_var hN hv hd hcd
end
theorem iteF {A B : Prop} (h : B) : if false = true then A else B := by
  rw [if_neg Bool.false_ne_true]
  exact h
theorem iteT {A B : Prop} (h : A) : if true = true then A else B := by
  rw [if_pos rfl]
  exact h
theorem ite2 {c A B : Prop} [Decidable c] (h1 : c → A) (h2 : ¬ c → B) : if c then A else B := by
  by_cases h : c
  · rw [if_pos h]
    exact h1 h
  · rw [if_neg h]
    exact h2 h
def Same (H H' : Hp) : Prop := ∀ b o, H b = some o → H' b = some o
theorem Same.refl (H : Hp) : Same H H := fun _ _ h => h
theorem Same.trans {H H1 H2 : Hp} (a : Same H H1) (b : Same H1 H2) : Same H H2 := fun c o h => b c o (a c o h)
theorem Same.free {H H' : Hp} (e : Same H H') {l : Addr} (h : H' l = Option.none) : H l = Option.none := by
  cases q : H l with
  | none => rfl
  | some o =>
    rw [e l o q] at h
    cases h
theorem Same.seq {K : PySem.W.Frag} {H H' : Hp} {a : Addr} {xs : List V} (e : Same H H') (h : SqL K H a xs) : SqL K H' a xs := by
  rcases h with (h | ⟨o, h⟩) | h
  · exact .inl (.inl (e _ _ h))
  · exact .inl (.inr ⟨o, e _ _ h⟩)
  · exact .inr h
end L2
set_option Elab.async false
set_option linter.all false
set_option maxRecDepth 100000
namespace L2
open PySem PySem.Spec PyProof.Rows
theorem ObjOk.some_ {P : Program} {w : World} {H : Hp} {h : Heap} {a : Addr} {o : HO} (x : ObjOk P w H h a o) : ∃ ob, h.get? a = some ob := by
  cases o with
  | lst xs => obtain ⟨_, _, _, _, e⟩ := x; exact ⟨_, e⟩
  | tup xs => obtain ⟨_, _, _, ob, e, _⟩ := x; exact ⟨_, e⟩
  | dK kvs => obtain ⟨_, _, _, _, o, _, _, e, _⟩ := x; exact ⟨_, e⟩
  | dT kvs => obtain ⟨_, _, _, _, o, _, _, e, _⟩ := x; exact ⟨_, e⟩
  | set S n => obtain ⟨o, _, _, _, e, _⟩ := x; exact ⟨_, e⟩
  | ins C dx fs => obtain ⟨_, _, _, e, _⟩ := x; exact ⟨_, e⟩
  | own y => obtain ⟨_, e⟩ := x; exact ⟨_, e⟩
  | xd fs => obtain ⟨_, ⟨_, _, _, e, _⟩, _⟩ := x; exact ⟨_, e⟩
  | rng lo hi => obtain ⟨_, _, _, e⟩ := x; exact ⟨_, e⟩
  | frz ob u => obtain ⟨e, _⟩ := x; exact ⟨_, e⟩
  | tbl ps => exact ⟨_, (show h.get? a = some _ from x)⟩
  | met f y => exact ⟨_, (show h.get? a = some _ from x)⟩
  | ext φ => obtain ⟨_, ⟨_, e⟩, _⟩ := x; exact ⟨_, e⟩
theorem Inv.there {X : Cx} {pins : List (Addr × Obj)} {σ : St} {H : Hp} {s : Shared} (I : Inv X pins σ H s) {a : Addr} {o : HO} (e : H a = some o) : ∃ ob, s.heap.get? a = some ob := (I.hok a o e).some_
theorem Inv.none_of {X : Cx} {pins : List (Addr × Obj)} {σ : St} {H : Hp} {s : Shared} (I : Inv X pins σ H s) {a : Addr} (e : s.heap.get? a = none) : H a = none := by
  cases q : H a with
  | none => rfl
  | some o =>
    obtain ⟨ob, z⟩ := I.there q
    rw [e] at z
    cases z
structure Fly (h0 h : Heap) (H : Hp) (C ea T : Addr) : Prop where
  ob : ∃ (oe : Obj) (vs : Array Value) (a0 : Value) (oT : Obj) (ts : Array Value), h.get? ea = some oe ∧ oe.cls = .ref C ∧ oe.data = .fields vs ∧ vs[0]? = some a0 ∧ vs[1]? = some (.ref T) ∧ h.get? T = some oT ∧ oT.data = .fields ts ∧ ts[3]? = some .none
  ne : T ≠ ea
  fe : H ea = none
  fT : H T = none
  ne0 : h0.get? ea = none
  nT0 : h0.get? T = none
def CXE (P : Program) (w : World) : CXT := fun outer H s E e s' => ∃ (ea T C : Addr) (H' : Hp), e = .ref ea ∧ s'.os = s.os ∧ AllBare s'.gens ∧ Un (frs outer) [] H H' s.heap s'.heap ∧ HOk P w H' s'.heap ∧ Fly s.heap s'.heap H' C ea T ∧ E (.ref C) none H'
theorem passE0 {P : Program} {w : World} {X : Cx} : Passes (CXE P w) X E0 := fun _ _ _ _ _ _ _ ⟨_, _, _, _, _, _, _, _, _, _, z⟩ => z.elim
structure Exc (K : PySem.W.Frag) (mg : Str → Option Value) (x : Str) (C : Addr) : Prop where
  bound : mg x = some (.ref C)
  ex : PySem.W.excIn K C [.type "ValueError", .type "Exception", .type "BaseException", .type "object"] "ValueError.__new__" = true
theorem exc_obj {K : PySem.W.Frag} {h : Heap} {C : Addr} {bmB : List Value} {newId : String} (X : K.In h) (q : PySem.W.excIn K C bmB newId = true) :
    ∃ bm N nm qn bs hdct sn sub ab col dd k0 k1 k2 k3 k5 mN, h.get? C = some (excClassObj nm qn C N bs bm hdct sn sub ab col dd k0 k1 k2 k3 k5 newId) ∧ h.Ns N mN ∧ mN "__init__" = none ∧ OwnTail h bmB bm := by
  unfold PySem.W.excIn at q
  split at q
  case h_2 => cases q
  case h_1 dd cd sl ho =>
    split at q
    case h_2 => cases q
    case h_1 C' bm k0 k1 k2 k3 n k5 hm hs =>
      simp only [Bool.and_eq_true, beq_iff_eq, Bool.not_eq_true'] at q
      obtain ⟨⟨⟨⟨⟨e1, e2⟩, e3⟩, e4⟩, e5⟩, e6⟩ := q
      subst e1 e2
      cases cd with
      | mk nm bs mro ns qn hd sn sub ab col del =>
        have hsl : sl = #[k0, k1, k2, k3, some (.builtin n), k5] := by rw [← Array.toList_inj]; exact hs
        simp only at hm e3 e5 e6
        subst hm e3 hsl
        exact ⟨bm, ns, nm, qn, bs, hd, sn, sub, ab, col, dd, k0, k1, k2, k3, k5, _, X _ _ ho, .of_isNs (PySem.W.isNs_of_in X e5), PySem.W.nsMap_none_of_in X e5 e6, PySem.W.tail_of_in X e4⟩
def tRaise (C : Addr) (t : TA) (E : XK) : TS := fun _ σ H => t σ H fun xs H1 => xs.length ≤ sizeLine ∧ E (.ref C) none H1
theorem Inv.hid {X : Cx} {pins : List (Addr × Obj)} {σ : St} {H : Hp} {s : Shared} (I : Inv X pins σ H s) (as : List Addr) (hs : ∀ b ∈ frs X.stack, b ∈ as) : s.heap.FunFrames (PySem.W.hideAll s.heap as) X.stack :=
  PySem.W.funFrames_hide I.stack fun env he a hf => hs a (List.mem_filterMap.mpr ⟨env, he, hf⟩)
section
variable {P : Program} {w : World} {K : PySem.W.Frag} {mg : Str → Option Value} {base : Heap} {N : List Str} {qual : Str} {scope : Scope} {f : Addr} {cd : Value} {A : Around} {outer : List Env} {s₀ : Shared} {H₀ : Hp} {E : XK}
theorem leaves_made {pins : List (Addr × Obj)} {σ : St} {H : Hp} {s : Shared} {C e : Addr} {vs : List Value} {h' : Heap} (I : Inv (cxOf (CXE P w) P w K mg base N qual scope f cd A outer s₀ H₀ E) pins σ H s)
    (hx : Heap.MadeExcOf s.heap h' e (.ref C) vs) (q : E (.ref C) none H) : (cxOf (CXE P w) P w K mg base N qual scope f cd A outer s₀ H₀ E).xe (.ref e) { s with heap := h' } := by
  have hin : ∀ b ∈ frs (envOfC qual scope s₀.heap.objs.size f cd :: outer), b ∈ frs (envOfC qual scope s₀.heap.objs.size f cd :: outer) := fun _ z => z
  have ff := I.hid _ hin
  show wpAny _ _ (leaving _ _) _ _ _
  refine wpAny_leaves_madeW (base := PySem.W.hideAll s.heap (frs (envOfC qual scope s₀.heap.objs.size f cd :: outer))) (h := s.heap) I.ok.frames rfl (fun b o z => PySem.W.of_hideAll _ z) ff hx fun h2 t fl tt tn up => ?_
  have inB : ∀ b o, b ∉ frs (envOfC qual scope s₀.heap.objs.size f cd :: outer) → s.heap.get? b = some o → h2.get? b = some o := fun b o nb z => fl.1 b o (PySem.W.hideAll_get _ z nb)
  have upS : ∀ b o, b ∈ frs (envOfC qual scope s₀.heap.objs.size f cd :: outer) → s.heap.get? b = some o → ∃ sl, h2.get? b = some { o with slots := sl } := fun b o nb z => by
    obtain ⟨_, o', z', hd⟩ := I.stack.mem nb
    rw [z] at z'
    cases z'
    exact up b o (hx.keeps b o z) hd
  have notL : ∀ b o, s₀.heap.get? b = some o → b ∉ frs outer → b ∉ frs (envOfC qual scope s₀.heap.objs.size f cd :: outer) := fun b o z nb m => by
    rcases List.mem_cons.mp (I.stkSub b m) with z' | z'
    · have := Heap.lt_size z
      have z' : b = s₀.heap.objs.size := z'
      rw [z'] at this
      exact Nat.lt_irrefl _ this
    · exact nb z'
  have thr : ∀ b o, s.heap.get? b = some o → ∃ o', h2.get? b = some o' := fun b o z => by
    by_cases hb : b ∈ frs (envOfC qual scope s₀.heap.objs.size f cd :: outer)
    · obtain ⟨sl, z'⟩ := upS b o hb z
      exact ⟨_, z'⟩
    · exact ⟨o, inB b o hb z⟩
  obtain ⟨_, _, _, oe, vs', T, oT, ts, a1, ⟨a2, a3⟩, a4, a5, a6, a7, a8, a9, a10⟩ := fl
  have noT : s.heap.get? T = none := by
    cases z : s.heap.get? T with
    | none => rfl
    | some o =>
      by_cases hb : T ∈ frs (envOfC qual scope s₀.heap.objs.size f cd :: outer)
      · obtain ⟨_, o', z', hd⟩ := I.stack.mem hb
        obtain ⟨sl, z2⟩ := upS T o hb z
        rw [z] at z'
        cases z'
        rw [a8] at z2
        cases z2
        exact absurd a9 (hd ts)
      · rw [PySem.W.hideAll_get _ z hb] at a6
        cases a6
  have no0 : ∀ b, s.heap.get? b = none → s₀.heap.get? b = none := fun b z => by
    cases y : s₀.heap.get? b with
    | none => rfl
    | some o =>
      obtain ⟨o', z'⟩ := I.base.there b o y (fun m => nomatch m)
      rw [z] at z'
      cases z'
  refine ⟨e, T, C, H, rfl, I.os, I.bare, ⟨fun b o z n nb _ => ?_, fun b o z n nb _ => ?_, fun b o z n _ => I.base.free b o z n (fun m => nomatch m), fun b o z _ => ?_, I.base.tups, I.base.frzs, I.base.tbls⟩, fun a o z => ?_,
    ⟨⟨oe, vs', .ref t, oT, ts, a1, a2, a4, a3, a5, a8, a9, a10⟩, a7, I.none_of hx.new, I.none_of noT, no0 _ hx.new, no0 _ noT⟩, q⟩
  · exact inB b o (notL b o z nb) (I.base.keep b o z n nb (fun m => nomatch m))
  · obtain ⟨sl, z1⟩ := I.base.slot b o z n nb (fun m => nomatch m)
    obtain ⟨sl', z2⟩ := upS b _ (by
      show b ∈ frs _
      unfold frs
      rw [List.filterMap_cons]
      exact List.mem_cons_of_mem _ nb) z1
    exact ⟨sl', z2⟩
  · obtain ⟨o', z'⟩ := I.base.there b o z (fun m => nomatch m)
    exact thr b o' z'
  · refine (I.hok a o z).stay (fun b u hb r => ?_) (fun _ y => y) fun _ _ y => y
    refine inB b u (fun m => ?_) r
    have := I.stkFree b m
    rcases hb with rfl | hb
    · rw [z] at this; cases this
    · rw [hb] at this; cases this
theorem ps_raise {x : Str} {C : Addr} {e : Expr} {es : List Expr} {t : TA} {np cpos pos : Pos} (ex : Exc K mg x C) (hh : A.handled = none) (hg : Gl (cxOf (CXE P w) P w K mg base N qual scope f cd A outer s₀ H₀ E) x)
    (ha : PA (cxOf (CXE P w) P w K mg base N qual scope f cd A outer s₀ H₀ E) (e :: es) t)
    (hs : starEach (e :: es) (envOfC qual scope s₀.heap.objs.size f cd) = (false, eval e (envOfC qual scope s₀.heap.objs.size f cd)) :: starEach es (envOfC qual scope s₀.heap.objs.size f cd) := by rfl)
    (hpl : (backTo cpos (starEach es (envOfC qual scope s₀.heap.objs.size f cd))).any (·.1) = false := by rfl) (hd : (x == ("__debug__" : Str)) = false := by decide) :
    PS (cxOf (CXE P w) P w K mg base N qual scope f cd A outer s₀ H₀ E) (.Raise (some (.Call (.Name x np) (e :: es) [] cpos)) none pos) (tRaise C t E) := by
  intro pins s σ H D I h
  obtain ⟨bm, N', nm, qn, bs, hdct, sn, sub, ab, col, dd, k0, k1, k2, k3, k5, mN, hC, hN, hni, TL⟩ := exc_obj (h := base) I.mod.kin ex.ex
  refine wpAny_Raise_call_subT (C := C) (nm := nm) (q := qn) (N := N') (bs := bs) (bm := bm) (hdct := hdct) (sn := sn) (sub := sub) (ab := ab) (col := col) (dd := dd) (k0 := k0) (k1 := k1) (k2 := k2) (k3 := k3) (k5 := k5)
    PySem.F.excBase_ValueError (mN := mN) (TL.hasType PySem.F.excBase_ValueError.hasBase) hh (by
      show (backTo cpos (starEach (e :: es) (envOfC qual scope s₀.heap.objs.size f cd))).any (·.1) = false
      rw [hs]
      show (false || (backTo cpos (starEach es (envOfC qual scope s₀.heap.objs.size f cd))).any (·.1)) = false
      rw [hpl]
      rfl) hni (ld_glob I hg ex.bound ⟨rfl, ?_⟩ hd)
  have h1 := ha cpos pins s σ H _ I h
  show wpAny _ _ (evalArgs (.ref C) true (backTo cpos (starEach (e :: es) (envOfC qual scope s₀.heap.objs.size f cd))) []) _ _ _
  have h1 : wpAny _ _ (spliced (backTo cpos (starEach (e :: es) (envOfC qual scope s₀.heap.objs.size f cd)))) _ _ s := h1
  rw [hs] at h1 ⊢
  refine Calls.evalArgs_plain (wpAny_mono h1 (fun us s2 ⟨xs, H2, I2, r, z, q⟩ => ⟨rfl, ?_, I2.bk _ _ hC, hN.keeps I2.bk, TL.keeps I2.bk, fun h' e' hx => ?_⟩) fun _ _ y => y)
  · rw [← r.length]; exact z
  · exact leaves_made I2 hx q
end
theorem Fun.okE {P : Program} {w : World} {K : PySem.W.Frag} {mg : Str → Option Value} {base : Heap} {x qual : Str} {st : Stmt} {f : Addr} {fd : FuncData} {N ps : List Str} {k : Nat} {sp : Sp} (F : Fun K x qual st f fd) (S : FnScope N ps (defScope st)) (len : ∀ vs H Q E, sp vs H Q E → vs.length = ps.length)
    (hbody : ∀ (cdv : Value) (A : Around) (outer : List Env) (s : Shared) (H : Hp) (vs : List V) (Q : VK) (E : XK), Room k (A.deeper (envOfC qual (defScope st) s.heap.objs.size f cdv)) → A.handled = none → sp vs H Q E →
      ∃ t, PSs (cxOf (CXE P w) P w K mg base N qual (defScope st) f cdv A outer s H E) (defBody st) t ∧ t { nx := fun _ H' => Q .non H', rt := Q } (start N vs) H) : FnOk P w K mg base (CXE P w) (k + 1) f fd ps sp := by
  obtain ⟨oc, od, kV, doc, pm, an, cdv, ct, osl, rfl, lk, hcd⟩ := F.ex
  exact fn_of lk hcd S len fun A outer s H vs Q E hr hsp => hbody cdv A outer s H vs Q E hr hr.hd hsp
end L2
set_option Elab.async false
set_option linter.all false
set_option maxRecDepth 100000
namespace L2
open PySem PySem.Spec PyProof.Rows
section
variable {prog : Program} {w : World} {A : Around} {E : Value → Shared → Prop} {z : Shared}
end
theorem Inv.track {X : Cx} {pins : List (Addr × Obj)} {σ : St} {H : Hp} {s : Shared} {p : Addr} {o : HO} (I : Inv X pins σ H s) (hn : H p = none) (h0 : X.s₀.heap.get? p = none) (hl : p ≠ X.env.locals)
    (hc : ∀ x c, X.env.cells.lookup x = some c → c ≠ p) (hp : ∀ q ∈ X.pn ++ pins, q.1 ≠ p) (new : ObjOk X.prog X.w (upd H p o) s.heap p o) : Inv X pins σ (upd H p o) s where
  ok := I.ok
  os := I.os
  bare := I.bare
  base := ⟨I.base.keep, I.base.slot, fun b ob e n hx => by
      rw [upd_ne (fun z => by rw [z, h0] at e; cases e)]
      exact I.base.free b ob e n hx, I.base.there,
    fun b xs e => by rw [upd_ne (ne_of_none (I.base.tups b xs e) hn)]; exact I.base.tups b xs e,
    fun b ob u e => by rw [upd_ne (ne_of_none (I.base.frzs b ob u e) hn)]; exact I.base.frzs b ob u e,
    fun b ps e => by
      obtain ⟨m, z⟩ := I.base.tbls b ps e
      exact ⟨m, by rw [upd_ne (ne_of_none z hn)]; exact z⟩⟩
  loc := I.loc
  cell := I.cell
  free := by rw [upd_ne hl.symm]; exact I.free
  freeC := fun x c e => by rw [upd_ne (hc x c e)]; exact I.freeC x c e
  pin := fun q m => by
    obtain ⟨a, b, c⟩ := I.pin q m
    exact ⟨a, by rw [upd_ne (hp q m)]; exact b, c⟩
  hok := fun b u e => by
    by_cases hb : b = p
    · subst hb
      rw [upd_same] at e
      cases e
      exact new
    · rw [upd_ne hb] at e
      exact (I.hok b u e).stay (fun _ _ _ q => q) (fun c q => by rw [upd_ne (ne_of_none q hn)]; exact q) fun c xs q => by rw [upd_ne (ne_of_none q hn)]; exact q
  len := I.len
end L2
set_option Elab.async false
set_option linter.all false
set_option maxRecDepth 100000
namespace L2
open PySem PySem.Spec PyProof.Rows
theorem getD_at {α : Type} {xs : List α} {i : Nat} {d : α} (h : i < xs.length) : xs.getD i d = xs[i] := by
  rw [List.getD_eq_getElem?_getD, List.getElem?_eq_getElem h]
  rfl
section
variable {X : Cx}
def eqL (xs ys : List V) : Bool := xs.length == ys.length && (List.range xs.length).all fun j => eqV (xs.getD j .non) (ys.getD j .non)
def rEqL (K : PySem.W.Frag) : R2 := fun x y H Q => ∃ a b xs ys, x = .ref a ∧ y = .ref b ∧ SqL K H a xs ∧ SqL K H b ys ∧ xs.all flatV = true ∧ ys.all flatV = true ∧ Q (.bl (eqL xs ys)) H
theorem val_at {xs : List V} {us : List Value} (r : Vals xs us) {j : Nat} (h1 : j < us.length) : RelV (xs.getD j .non) us[j] := by
  have hl := r.length
  obtain ⟨u, hu, ru⟩ := r.get (i := j) (x := xs.getD j .non) (by rw [List.getElem?_eq_getElem (by omega), getD_at (by omega)])
  rw [List.getElem?_eq_getElem h1] at hu
  cases hu
  exact ru
theorem flat_at {xs : List V} (f : xs.all flatV = true) {j : Nat} (h : j < xs.length) : flatV (xs.getD j .non) = true := by
  rw [getD_at h]
  exact List.all_eq_true.mp f _ (List.getElem_mem h)
theorem op_eqL (hu : X.A.units < cLine) : OpR X (compareOp .Eq) (rEqL X.K) := by
  intro pins s σ H x y v u Q I rx ry h
  obtain ⟨a, b, xs, ys, rfl, rfl, ha, hb, fx, fy, q⟩ := h
  cases rx
  cases ry
  obtain ⟨i1, r1, p1, z1⟩ := I.list ha
  obtain ⟨i2, r2, p2, z2⟩ := I.list hb
  have l1 := r1.length
  have l2 := r2.length
  by_cases hl : xs.length = ys.length
  · refine SeqAt.eq_listAt (e := fun j => eqV (xs.getD j .non) (ys.getD j .non)) p1.isList p2.isList (by simp; omega) hu (fun j h1 h2 => ?_) ⟨.bl _, H, I, rfl, ?_⟩
    · have h1' : j < i1.length := by simpa using h1
      have h2' : j < i2.length := by simpa using h2
      have e := eqAt_V (A := X.A.in1) (s := s) (val_at r1 h1') (val_at r2 h2') (flat_at fx (by omega)) (flat_at fy (by omega))
      simpa using e
    · have e : eqL xs ys = (List.range i1.toArray.size).all fun j => eqV (xs.getD j .non) (ys.getD j .non) := by
        unfold eqL
        rw [List.size_toArray, ← l1, hl]
        simp
      rw [← e]
      exact q
  · refine SeqAt.eq_list_lengthsAt p1.isList p2.isList (by simp; omega) hu ⟨.bl _, H, I, rfl, ?_⟩
    have e : eqL xs ys = false := by
      unfold eqL
      rw [beq_eq_false_iff_ne.mpr hl, Bool.false_and]
    rw [← e]
    exact q
end
end L2
set_option linter.all false
namespace Srt
open PySem.W PyProof.Rows
section
variable {key : Nat → Int} {n : Nat}
end
end Srt
set_option Elab.async false
set_option linter.all false
set_option maxRecDepth 100000
namespace L2
open PySem PySem.Spec PyProof.Rows PySem.W
section
variable {X : Cx} {pins : List (Addr × Obj)} {σ : St} {H : Hp} {s : Shared}
structure Young (X : Cx) (pins : List (Addr × Obj)) (b : Addr) : Prop where
  lo : b ≠ X.env.locals
  fs : b ∉ X.fs
  ge : b ∈ X.ex ∨ X.s₀.heap.objs.size ≤ b
  ce : ∀ x c, X.env.cells.lookup x = some c → c ≠ b
  pi : ∀ p ∈ X.pn ++ pins, p.1 ≠ b
theorem Inv.young (I : Inv X pins σ H s) {b : Addr} (hb : s.heap.objs.size ≤ b) : Young X pins b := by
  obtain ⟨_, a1, a2, a3, a4, a5⟩ := I.fpOk (b := b) hb (H' := fun _ => none) rfl
  exact ⟨a1, a2, a3, a4, a5⟩
theorem Inv.record (I : Inv X pins σ H s) {b : Addr} {h' : Heap} (y : Young X pins b) (hn : H b = none) (hs : Heap.SameBut b s.heap h') : Inv X pins σ H { s with heap := h' } :=
  I.turned (t' := s.toks) (fun c o nc e => (hs.2 c nc).trans e) hn y.lo y.ge y.ce y.pi
end
end L2
set_option Elab.async false
set_option linter.all false
set_option maxRecDepth 100000
namespace L2
open PySem PySem.Spec PyProof.Rows PySem.W
section
variable {X : Cx} {pins : List (Addr × Obj)} {σ : St} {H : Hp} {s : Shared}
end
end L2
set_option Elab.async false
set_option linter.all false
set_option maxRecDepth 100000
namespace L2
open PySem PySem.Spec PyProof.Rows PySem.W Builtin.Getset_descriptor
def ExcIs (ea C : Addr) : Heap → Prop := fun h => ∃ o, h.get? ea = some o ∧ o.cls = .ref C
theorem ExcIs.ok {P : Program} {w : World} {H : Hp} {h : Heap} {ea C : Addr} (x : ExcIs ea C h) : ObjOk P w H h ea (.ext (ExcIs ea C)) :=
  ⟨x, let ⟨o, e, _⟩ := x; ⟨o, e⟩, fun _ _ ⟨o, e, c⟩ k => ⟨o, k o e, c⟩⟩
theorem ExcIs.ty {M : Model} {h : Heap} {ea C : Addr} (x : ExcIs ea C h) : Looks M h (typeOf (.ref ea)) (.ref C) := by
  obtain ⟨o, e, c⟩ := x
  rw [← c]
  exact (Looks.ld e).andThen .now
section
variable {prog : Program} {w : World} {A : Around} {E : Value → Shared → Prop} {K : Frag} {x C : Addr}
theorem exc_class_get {s : Shared} {tp : Value} {R : Result → Shared → Prop} (X : K.In s.heap) (J : ExcIs x C s.heap) (hm : mroIn K C (.type "object") = some true) (q : R (.ok (.ret (.ref C))) s) :
    codeAny (model prog w) A (.call (.builtin "getset_descriptor.__get__") ⟨[.builtin "object.__class__", .ref x, tp], []⟩) R s := by
  obtain ⟨h0, g0, d0, t0, o0⟩ := s
  have LT := J.ty (M := model prog w)
  have LM := looks_mroIn (M := model prog w) X hm
  refine codeAny_call_builtin KF.slot_gs.plain KF.entry_gs ?_
  refine KF.slot_gs.check _ _ _ _ _ _ _ _ KF.type_class (KF.args_gs _ _ _) ?_
  unfold Builtin.«getset_descriptor.__get__»
  unfold descrGet
  rw [dga_obj]
  refine wpAny_bind ?_
  refine wpAny_pure ?_
  unfold descrGetter
  unfold descrCheckInstance
  unfold descrNameAndClass
  unfold isInstance
  simp only [KF.owner_class]
  repeat lk
  refine ⟨Code.quiet_builtin _ (by decide +kernel), ?_⟩
  refine codeAny_builtin KF.entry_class ?_
  unfold Builtin.«object.__class__»
  unfold shownTypeOf
  repeat lk
  exact q
structure ExcCls (K : Frag) (C : Addr) : Prop where
  ga : findIn K (.ref C) "__getattribute__" = some (some (.builtin "BaseException.__getattribute__"))
  gn : findIn K (.ref C) "__getattr__" = some none
  ha : findIn K (.ref C) "__class__" = some (some (.builtin "object.__class__"))
  hn : specialIn K (.builtin "object.__class__") "__get__" = some (some (.builtin "getset_descriptor.__get__"))
  tk : takesIn K (.builtin "object.__class__") = some true
  mo : mroIn K C (.type "object") = some true
  mb : mroIn K C (.type "BaseException") = some true
  ty : typeIn K (.ref C) = some (.type "type")
  cl : (clsIn K C).isSome = true
theorem exc_find {M : Model} {h : Heap} (X : K.In h) (J : ExcIs x C h) (c : ExcCls K C) : Looks M h (Builtin.ObjectAttr.find (.ref x) (.ref C) "__class__") (.bind (.builtin "getset_descriptor.__get__") (.builtin "object.__class__")) := by
  have L1 := looks_findIn (M := M) X c.ha
  have L2 : Looks M h (Builtin.ObjectAttr.getOf (some (.builtin "object.__class__"))) (some (.builtin "getset_descriptor.__get__")) := looks_specialIn X c.hn
  have L3 := looks_takesIn (M := M) X c.tk
  exact L1.andThen (L2.andThen ((show Looks M h (Builtin.ObjectAttr.dataDescriptor? (some (.builtin "object.__class__")) (some (.builtin "getset_descriptor.__get__"))) (some (.builtin "getset_descriptor.__get__", .builtin "object.__class__")) from L3.andThen .now).andThen (Looks.tag .now)))
theorem exc_entry {s : Shared} {tk : Tok} {R : Result → Shared → Prop} (X : K.In s.heap) (J : ExcIs x C s.heap) (c : ExcCls K C) (q : R (.ok (.ret (.ref C))) s) :
    codeAny (model prog w) A (.call (.builtin "BaseException.__getattribute__") ⟨[.ref x, .str "__class__" tk], []⟩) R s := by
  obtain ⟨h0, g0, d0, t0, o0⟩ := s
  have LT := J.ty (M := model prog w)
  have LF := exc_find (M := model prog w) X J c
  have LB := looks_mroIn (M := model prog w) X c.mb
  refine codeAny_call_builtin PySem.F.attr_ValueError.ga.plain PySem.F.entry_bexc_ga ?_
  have hk : builtinKind "BaseException.__getattribute__" = some .slot := by decide +kernel
  have hsp : splitId "BaseException.__getattribute__" = some ("BaseException", "__getattribute__") := by decide +kernel
  have hao := PySem.F.args_bexc_ga (.ref x) (.str "__class__" tk)
  simp only [checkBuiltinCall, hk, hsp]
  refine wpAny_bind ?_
  unfold isInstance
  repeat (any_goals (first | assumption | with_reducible refine Looks.at (by assumption) ?_ | wp_step))
  refine exc_class_get X J c.mo ?_
  repeat (any_goals (first | assumption | wp_step))
theorem exc_attr {s : Shared} {Q : Option Value → Shared → Prop} (X : K.In s.heap) (J : ExcIs x C s.heap) (c : ExcCls K C) (q : Q (some (.ref C)) { s with toks := s.toks + 1 }) : wpAny (model prog w) A (getAttr? (.ref x) "__class__") Q E s := by
  obtain ⟨h0, g0, d0, t0, o0⟩ := s
  have LT := J.ty (M := model prog w)
  have L1 := looks_findIn (M := model prog w) X c.ga
  have L2 := looks_findIn (M := model prog w) X c.gn
  have f3 := PySem.F.attr_ValueError.ga.bind (.ref x)
  have hx2 : (Value.builtin "BaseException.__getattribute__" == Value.builtin "object.__getattribute__") = false := by decide +kernel
  have hx1 : (onTheHeap (Value.ref C) && Value.builtin "BaseException.__getattribute__" == Value.builtin "object.__getattribute__") = false := by rw [hx2]; rfl
  unfold getAttr? getAttrBy?
  repeat (any_goals (first | assumption | with_reducible refine Looks.at (by assumption) ?_ | wp_step))
  refine exc_entry X J c ?_
  repeat (any_goals (first | assumption | wp_step))
theorem exc_matches {s : Shared} {P : Addr} {Q : Bool → Shared → Prop} (X : K.In s.heap) (J : ExcIs x C s.heap) (c : ExcCls K P) (hm : mroIn K C (.ref P) = some true) (q : Q true s) : wpAny (model prog w) A (excMatches (.ref x) (.ref P)) Q E s := by
  obtain ⟨h0, g0, d0, t0, o0⟩ := s
  have LT := J.ty (M := model prog w)
  have LP := looks_typeIn (M := model prog w) X c.ty
  have LM := looks_mroIn (M := model prog w) X hm
  have LB := looks_mroIn (M := model prog w) X c.mb
  have LI : Looks (model prog w) h0 (isType (.ref P)) true := by
    obtain ⟨cd, hc⟩ := Option.isSome_iff_exists.mp c.cl
    unfold clsIn at hc
    split at hc
    · rename_i a1 a2 a3 a4 ho
      intro A' Q' E' s' k z
      unfold isType loadHead
      exact wpAny_bind (wpAny_loadPart (k _ _ (X _ _ ho)) (wpAny_pure z))
    · cases hc
  have LN : Looks (model prog w) h0 (isSubtype (.type "type") (.type "tuple")) false := Looks.of_pure tc_notTuple
  unfold excMatches isInstance isExcClass
  repeat lk
  exact q
theorem kitx_exc (c : ExcCls K C) : KitX K (.ref x) (.ref C) (ExcIs x C) where
  ty := fun _ _ _ J => J.ty
  it := fun M h X _ => by
    obtain ⟨cd, hc⟩ := Option.isSome_iff_exists.mp c.cl
    unfold clsIn at hc
    split at hc
    · rename_i a1 a2 a3 a4 ho
      intro A' Q' E' s' k z
      unfold isType loadHead
      exact wpAny_bind (wpAny_loadPart (k _ _ (X _ _ ho)) (wpAny_pure z))
    · cases hc
  ne := fun h tp dd its n sl X htp => by
    obtain ⟨cd, hc⟩ := Option.isSome_iff_exists.mp c.cl
    refine Bool.eq_false_iff.mpr fun q => ?_
    obtain rfl : C = tp := Value.ref.inj (beq_iff_eq.mp q)
    unfold clsIn at hc
    split at hc
    · rename_i a1 a2 a3 a4 ho
      have z := (X _ _ ho).symm.trans htp
      cases z
    · cases hc
  ca := fun X J k => exc_attr X J c k
end
end L2
set_option Elab.async false
set_option linter.all false
set_option maxRecDepth 100000
namespace L2
open PySem PySem.Spec PyProof.Rows PySem.W
structure FlyIn (X : Cx) (pins : List (Addr × Obj)) (h : Heap) (H : Hp) (C ea T : Addr) : Prop where
  ob : ∃ (oe : Obj) (vs : Array Value) (a0 : Value) (oT : Obj) (ts : Array Value), h.get? ea = some oe ∧ oe.cls = .ref C ∧ oe.data = .fields vs ∧ vs[0]? = some a0 ∧ vs[1]? = some (.ref T) ∧ h.get? T = some oT ∧ oT.data = .fields ts ∧ ts[3]? = some .none
  ne : T ≠ ea
  fe : H ea = none
  fT : H T = none
  s0 : X.s₀.heap.get? ea = none ∧ X.s₀.heap.get? T = none
  lo : X.env.locals ≠ ea ∧ X.env.locals ≠ T
  ce : ∀ x c, X.env.cells.lookup x = some c → c ≠ ea ∧ c ≠ T
  pi : ∀ p ∈ X.pn ++ pins, p.1 ≠ ea ∧ p.1 ≠ T
theorem Inv.exc {X : Cx} {pins : List (Addr × Obj)} {σ : St} {H : Hp} {s : Shared} {h' : Heap} {C ea T : Addr} (I : Inv X pins σ H s) (f : FlyIn X pins s.heap H C ea T)
    (k1 : ∀ b o, b ∉ frs X.stack → b ≠ ea → b ≠ T → s.heap.get? b = some o → h'.get? b = some o) (k2 : ∀ b o, b ∈ frs X.stack → s.heap.get? b = some o → ∃ sl, h'.get? b = some { o with slots := sl }) :
    Inv X pins σ H { s with heap := h' } := by
  have old : ∀ b o, X.s₀.heap.get? b = some o → b ≠ ea ∧ b ≠ T ∧ b ≠ X.env.locals := fun b o e =>
    ⟨(fun z => by rw [z, f.s0.1] at e; cases e), (fun z => by rw [z, f.s0.2] at e; cases e), Nat.ne_of_lt (Nat.lt_of_lt_of_le (Heap.lt_size e) I.ok.above)⟩
  have nst : ∀ b, b ≠ X.env.locals → b ∉ X.fs → b ∉ frs X.stack := fun b n1 n2 m => (List.mem_cons.mp (I.stkSub b m)).elim n1 n2
  have sst : ∀ b, b ∈ X.fs → b ∈ frs X.stack := fun b m => by
    rcases I.ok.stk with e | ⟨e, hf⟩
    · rw [e]; exact m
    · rw [e]
      unfold frs
      rw [List.filterMap_cons, hf]
      exact List.mem_cons_of_mem _ m
  have any : ∀ b o, b ≠ ea → b ≠ T → s.heap.get? b = some o → ∃ sl, h'.get? b = some { o with slots := sl } := fun b o n1 n2 e => by
    by_cases hb : b ∈ frs X.stack
    · exact k2 b o hb e
    · exact ⟨o.slots, k1 b o hb n1 n2 e⟩
  have cellK : ∀ x c, X.env.cells.lookup x = some c → ∀ v, s.heap.IsCell c v → h'.IsCell c v := fun x c e v ⟨o, ho, hd⟩ => by
    obtain ⟨sl, z⟩ := any c o (f.ce x c e).1 (f.ce x c e).2 ho
    exact ⟨_, z, hd⟩
  refine ⟨I.ok, I.os, I.bare, ⟨fun b o e n hb hx => ?_, fun b o e n hb hx => ?_, I.base.free, fun b o e hx => ?_, I.base.tups, I.base.frzs, I.base.tbls⟩, ?_, fun x c e => ?_, I.free, I.freeC, fun p hp => ?_, fun a o z => ?_, I.len⟩
  · obtain ⟨n1, n2, n3⟩ := old b o e
    exact k1 b o (nst b n3 hb) n1 n2 (I.base.keep b o e n hb hx)
  · obtain ⟨sl, z⟩ := I.base.slot b o e n hb hx
    obtain ⟨sl', z'⟩ := k2 b _ (sst b hb) z
    exact ⟨sl', z'⟩
  · obtain ⟨o', z⟩ := I.base.there b o e hx
    obtain ⟨n1, n2, n3⟩ := old b o e
    obtain ⟨sl, z'⟩ := any b o' n1 n2 z
    exact ⟨_, z'⟩
  · obtain ⟨m, ⟨o, es, ep, ho, hd, r⟩, hl⟩ := I.loc
    obtain ⟨sl, z⟩ := any _ o f.lo.1 f.lo.2 ho
    refine ⟨m, ⟨_, es, ep, z, hd, r⟩, fun i x v e1 e2 e3 => ?_⟩
    obtain ⟨u, ru, l⟩ := hl i x v e1 e2 e3
    refine ⟨u, ru, ?_⟩
    rcases l with l | ⟨k, c, e, y⟩
    · exact .inl l
    · exact .inr ⟨k, c, e, cellK x c e _ y⟩
  · obtain ⟨v, y⟩ := I.cell x c e
    exact ⟨v, cellK x c e v y⟩
  · obtain ⟨e, n, n1, n2, d⟩ := I.pin p hp
    exact ⟨k1 p.1 p.2 (nst p.1 n1 n2) (f.pi p hp).1 (f.pi p hp).2 e, n, n1, n2, d⟩
  · refine (I.hok a o z).stay (fun b u hb r => ?_) (fun _ y => y) fun _ _ y => y
    have hb' : ∃ u', H b = some u' := by
      rcases hb with rfl | hb
      · exact ⟨_, z⟩
      · exact ⟨_, hb⟩
    obtain ⟨u', hb'⟩ := hb'
    refine k1 b u (fun m => ?_) (fun y => ?_) (fun y => ?_) r
    · rw [I.stkFree b m] at hb'; cases hb'
    · rw [y, f.fe] at hb'; cases hb'
    · rw [y, f.fT] at hb'; cases hb'
def Cx.tr (X : Cx) (pl : List (Addr × Obj)) (Ec : Addr → St → Hp → Prop) : Cx :=
  { X with pn := X.pn ++ pl, xe := fun e s' => ∃ ea T C σ H, e = .ref ea ∧ Inv X pl σ H s' ∧ FlyIn X pl s'.heap H C ea T ∧ Ec C σ H }
theorem Inv.tr {X : Cx} {pl : List (Addr × Obj)} {σ : St} {H : Hp} {s : Shared} (I : Inv X pl σ H s) (Ec : Addr → St → Hp → Prop) : Inv (X.tr pl Ec) [] σ H s :=
  ⟨⟨I.ok.mod, I.ok.kind, I.ok.glob, I.ok.blt, I.ok.above, I.ok.inj, I.ok.has, I.ok.cab, I.ok.hd, I.ok.frames, I.ok.stk, I.ok.exf, I.ok.bs, I.ok.bsz, I.ok.noex, I.ok.exfs, I.ok.funs, I.ok.frf⟩, I.os, I.bare, I.base, I.loc, I.cell, I.free, I.freeC,
    fun p hp => I.pin p (by simpa [Cx.tr] using hp), I.hok, I.len⟩
theorem Inv.untr {X : Cx} {pl pins : List (Addr × Obj)} {σ : St} {H : Hp} {s : Shared} {Ec : Addr → St → Hp → Prop} (I : Inv (X.tr pl Ec) pins σ H s) : Inv X pl σ H s :=
  ⟨⟨I.ok.mod, I.ok.kind, I.ok.glob, I.ok.blt, I.ok.above, I.ok.inj, I.ok.has, I.ok.cab, I.ok.hd, I.ok.frames, I.ok.stk, I.ok.exf, I.ok.bs, I.ok.bsz, I.ok.noex, I.ok.exfs, I.ok.funs, I.ok.frf⟩, I.os, I.bare, I.base, I.loc, I.cell, I.free, I.freeC,
    fun p hp => I.pin p (List.mem_append_left _ hp), I.hok, I.len⟩
def tCallX (sp : Sp) (dvs : List V) (Ec : Addr → St → Hp → Prop) (t : TA) : TE := fun σ H Q => t σ H fun vs H1 => sp (vs ++ dvs) H1 Q fun c _ H2 => ∃ C, c = .ref C ∧ Ec C σ H2
theorem pe_callX {X : Cx} {pl : List (Addr × Obj)} {Ec : Addr → St → Hp → Prop} {k : Nat} {f : Addr} {fd : FuncData} {ps : List Str} {sp : Sp} {dvs : List V} {ds : List Value} {x : Str} {p pos : Pos} {e : Expr} {es : List Expr} {t : TA}
    (F : FnOk X.prog X.w X.K X.mg X.base (CXE X.prog X.w) k f fd ps sp) (hr : Room k X.A) (hg : Gl X x) (hm : X.mg x = some (.ref f)) (hk : PySem.W.keepIn X.K (.ref f) = true) (hb : Binds X.K fd ps ds) (hd : Vals dvs ds) (hex : X.ex = [])
    (ha : PA (X.tr pl Ec) (e :: es) t) (hdb : (x == ("__debug__" : Str)) = false := by decide) (he : starEach (e :: es) X.env = (false, eval e X.env) :: starEach es X.env := by rfl) (hpl : (backTo pos (starEach es X.env)).any (·.1) = false := by rfl) :
    PE (X.tr pl Ec) (.Call (.Name x p) (e :: es) [] pos) (tCallX sp dvs Ec t) := by
  intro pins s σ H Q I h
  refine wpAny_Call_Name_kw (ld_glob (X := X.tr pl Ec) I hg hm ?_ hdb)
  refine PySem.W.callWith_K (h₀ := X.base) I.ok.mod.kin hk (thn (ha pos pins s σ H _ I h) fun us s1 ⟨vs, H1, I1, r, q⟩ => ⟨I1.kIn, ?_⟩) he hpl
  have r2 : Vals (vs ++ dvs) (us ++ ds) := r.append hd
  have hl : (us ++ ds).length = ps.length := by rw [← r2.length]; exact F.len _ _ _ _ q
  refine wpAny_call (codeAny_mono (F.run X.A X.stack s1 H1 ⟨us, []⟩ (us ++ ds) (vs ++ dvs) Q _ hr I1.env0 (hb s1 us I1.kIn hl) r2 q) fun r s' hq => ?_)
  cases r with
  | ok fl =>
    cases fl with
    | ret u => exact I1.after hq
    | next => exact False.elim hq
    | brk => exact False.elim hq
    | cont => exact False.elim hq
  | error e' =>
    obtain ⟨ea, T, C, H', rfl, os, bare, un, hok, fl, C', eC, z⟩ := hq
    cases eC
    have I2 : Inv (X.tr pl Ec) pins σ H' s' := I1.call' (ch := []) os un hok bare (fun b z => nomatch z)
    have lo : ∀ b o, s1.heap.get? b = some o → b ≠ ea ∧ b ≠ T := fun b o e => ⟨(fun y => by rw [y, fl.ne0] at e; cases e), (fun y => by rw [y, fl.nT0] at e; cases e)⟩
    have s0n : ∀ b, s1.heap.get? b = none → X.s₀.heap.get? b = none := fun b e => by
      cases y : X.s₀.heap.get? b with
      | none => rfl
      | some o =>
        obtain ⟨o', y'⟩ := I1.base.there b o y (by show b ∉ X.ex; rw [hex]; exact fun z => nomatch z)
        rw [e] at y'
        cases y'
    refine ⟨ea, T, C, σ, H', rfl, I2.untr, ⟨fl.ob, fl.ne, fl.fe, fl.fT, ⟨s0n _ fl.ne0, s0n _ fl.nT0⟩, ?_, fun x c e => ?_, fun p hp => ?_⟩, z⟩
    · obtain ⟨m, ⟨o, _, _, ho, _⟩, _⟩ := I1.loc
      exact lo _ o ho
    · obtain ⟨v, o, ho, _⟩ := I1.cell x c e
      exact lo c o ho
    · exact lo _ _ (I1.pin p (List.mem_append_left _ hp)).1
def Cx.su (X : Cx) (e : Value) : Cx := { X with A := X.A.mark (some e), calm := false, xe := fun _ _ => False }
theorem Inv.su {X : Cx} {pins : List (Addr × Obj)} {σ : St} {H : Hp} {s : Shared} (I : Inv X pins σ H s) (e : Value) : Inv (X.su e) pins σ H s :=
  ⟨⟨I.ok.mod, I.ok.kind, I.ok.glob, I.ok.blt, I.ok.above, I.ok.inj, I.ok.has, I.ok.cab, (fun z => nomatch z), I.ok.frames, I.ok.stk, I.ok.exf, I.ok.bs, I.ok.bsz, I.ok.noex, I.ok.exfs, I.ok.funs, I.ok.frf⟩, I.os, I.bare, I.base, I.loc, I.cell, I.free, I.freeC, I.pin, I.hok, I.len⟩
theorem Inv.unsu {X : Cx} {pins : List (Addr × Obj)} {σ : St} {H : Hp} {s : Shared} {e : Value} (ok : X.Ok) (I : Inv (X.su e) pins σ H s) : Inv X pins σ H s :=
  ⟨ok, I.os, I.bare, I.base, I.loc, I.cell, I.free, I.freeC, I.pin, I.hok, I.len⟩
theorem Inv.unname {X : Cx} {pins : List (Addr × Obj)} {σ : St} {H : Hp} {s : Shared} {h' : Heap} {t' : Nat} {i : Nat} {n : Str} {v : Option Value} {m : Str → Option Value} (I : Inv X pins σ H s) (hN : X.N.Nodup) (hi : X.N[i]? = some n)
    (hn : s.heap.Ns X.env.locals m) (hl : ∀ (j : Nat) (x : Str) (w : V), X.N[j]? = some x → σ[j]? = some (some w) → Vis X.env.scope x → ∃ u, RelV w u ∧ Look X.env s.heap m x u) (hn' : h'.Ns X.env.locals fun y => if y = n then v else m y)
    (hs : Heap.SameBut X.env.locals s.heap h') : Inv X pins (σ.set i none) H { s with heap := h', toks := t' } := by
  have old : ∀ b o, X.s₀.heap.get? b = some o → b ≠ X.env.locals := fun b o e => Nat.ne_of_lt (Nat.lt_of_lt_of_le (Heap.lt_size e) I.ok.above)
  refine ⟨I.ok, I.os, I.bare, ⟨fun b o e n hb hx => (hs.2 b (old b o e)).trans (I.base.keep b o e n hb hx), fun b o e n hb hx => ?_, I.base.free, fun b o e hx => ?_, I.base.tups, I.base.frzs, I.base.tbls⟩, ⟨_, hn', fun j y w e1 e2 e3 => ?_⟩, fun y c e => ?_, I.free, I.freeC, fun p hp => ?_, fun b ob e => ?_, by simpa using I.len⟩
  · obtain ⟨sl, z⟩ := I.base.slot b o e n hb hx
    exact ⟨sl, (hs.2 b (old b o e)).trans z⟩
  · obtain ⟨o', z⟩ := I.base.there b o e hx
    exact ⟨o', (hs.2 b (old b o e)).trans z⟩
  · by_cases hj : j = i
    · subst hj
      rw [List.getElem?_set] at e2
      split at e2
      · split at e2 <;> cases e2
      · exact absurd rfl (by assumption)
    · rw [List.getElem?_set_ne (Ne.symm hj)] at e2
      obtain ⟨u, ru, l⟩ := hl j y w e1 e2 e3
      have yn : y ≠ n := fun z => hj (nodup_ix hN e1 (z ▸ hi))
      refine ⟨u, ru, ?_⟩
      rcases l with ⟨k, z⟩ | ⟨k, c, e, z⟩
      · exact .inl ⟨k, by show (if y = n then v else m y) = some u; rw [if_neg yn]; exact z⟩
      · exact .inr ⟨k, c, e, z.sameBut hs (I.cne y c e)⟩
  · obtain ⟨w, z⟩ := I.cell y c e
    exact ⟨w, z.sameBut hs (I.cne y c e)⟩
  · obtain ⟨e, a, b, c, d⟩ := I.pin p hp
    exact ⟨(hs.2 p.1 b).trans e, a, b, c, d⟩
  · refine (I.hok b ob e).stay (fun c w hc q => (hs.2 c ?_).trans q) (fun _ q => q) fun _ _ q => q
    intro z
    rcases hc with rfl | hc
    · rw [z, I.free] at e; cases e
    · rw [z, I.free] at hc; cases hc
def tTry (i : Nat) (CP : Addr → Prop) (tb : (Addr → St → Hp → Prop) → TS) (ts : TS) : TS := fun D σ H =>
  tb (fun C σ1 H1 => CP C ∧ ∀ ea, H1 ea = none → ts { nx := fun σ2 H2 => D.nx (σ2.set i none) H2, rt := D.rt, bk := fun σ2 H2 => D.bk (σ2.set i none) H2, ct := fun σ2 H2 => D.ct (σ2.set i none) H2 } (σ1.set i (some (.ref ea))) (upd H1 ea (.ext (ExcIs ea C)))) D σ H
theorem SP.untr {X : Cx} {pl pins : List (Addr × Obj)} {Ec : Addr → St → Hp → Prop} {D : Ends} {f : Flow} {s' : Shared} (h : SP (X.tr pl Ec) pins D f s') : SP X pl D f s' := by
  cases f with
  | next => obtain ⟨σ', H', I, q⟩ := h; exact ⟨σ', H', I.untr, q⟩
  | brk => obtain ⟨σ', H', I, q⟩ := h; exact ⟨σ', H', I.untr, q⟩
  | cont => obtain ⟨σ', H', I, q⟩ := h; exact ⟨σ', H', I.untr, q⟩
  | ret u => obtain ⟨v, σ', H', I, r, q⟩ := h; exact ⟨v, σ', H', I.untr, r, q⟩
theorem ps_try {X : Cx} {i : Nat} {n x : Str} {P : Addr} {body : List Stmt} {b₀ : Stmt} {suite : List Stmt} {tb : (Addr → St → Hp → Prop) → TS} {ts : TS} {np hpos pos : Pos} (hst : X.stack = X.env :: X.outer) (hf : X.env.frame = some X.env.locals)
    (hN : X.N.Nodup) (hi : X.N[i]? = some n) (hlo : X.env.scope.names.lookup n = some .local) (hg : Gl X x) (hm : X.mg x = some (.ref P)) (cP : ExcCls X.K P) (hb : ∀ pl Ec, PSs (X.tr pl Ec) body (tb Ec)) (hs : ∀ e, PSs (X.su e) (b₀ :: suite) ts)
    (hd : (x == ("__debug__" : Str)) = false := by decide) :
    PS X (.Try body [.ExceptHandler (some (.Name x np)) (some n) (b₀ :: suite) hpos] [] [] pos) (tTry i (fun C => mroIn X.K C (.ref P) = some true) tb ts) := by
  intro pins s σ H D I h
  refine wpAny_Try_except ?_
  have hB := hb pins _ [] s σ H D (I.tr _) h
  refine wpAny_mono hB (fun f s1 q => ?_) fun e s1 q => ?_
  · have q' := q.untr
    cases f with
    | next =>
      obtain ⟨σ', H', I', z⟩ := q'
      exact wpAny_execs_nil ⟨σ', H', I', z⟩
    | brk => exact q'
    | cont => exact q'
    | ret u => exact q'
  obtain ⟨ea, T, C, σ1, H1, rfl, I1, fly, hC, q⟩ := q
  obtain ⟨oe, vs, a0, oT, ts', e1, e2, e3, e4, e5, e6, e7, e8⟩ := fly.ob
  have frN : ∀ b ∈ frs X.stack, b ≠ ea ∧ b ≠ T := fun b hb => by
    obtain ⟨_, o, ho, hnf⟩ := I1.stack.mem hb
    exact ⟨(fun z => by rw [z, e1] at ho; cases ho; exact hnf vs e3), (fun z => by rw [z, e6] at ho; cases ho; exact hnf ts' e7)⟩
  -- the heap without the frames and the exception's records
  have ff : s1.heap.FunFrames (hideAll s1.heap (ea :: T :: frs X.stack)) X.stack := I1.hid _ fun b hb => List.mem_cons_of_mem _ (List.mem_cons_of_mem _ hb)
  have fl : Heap.FlyingW (hideAll s1.heap (ea :: T :: frs X.stack)) X.stack ea (.ref C) a0 s1.heap :=
    ⟨fun b o z => of_hideAll _ z, hideAll_none _ List.mem_cons_self, ff, oe, vs, T, oT, ts', e1, ⟨e2, e4⟩, e3, e5, hideAll_none _ (List.mem_cons_of_mem _ List.mem_cons_self), fly.ne, e6, e7, e8⟩
  have frA : X.A.frames = some (X.env :: X.outer) := by rw [← hst]; exact I.ok.frames
  have back : ∀ {h' : Heap}, Heap.StaysIn (hideAll s1.heap (ea :: T :: frs X.stack)) h' → s1.heap.UpToSlots h' → Inv X pins σ1 H1 { s1 with heap := h' } := fun {h'} st up => by
    refine I1.exc fly (fun b o n1 n2 n3 z => st b o (hideAll_get _ z ?_)) fun b o n1 z => ?_
    · intro m
      rcases List.mem_cons.mp m with m | m
      · exact n2 m
      · rcases List.mem_cons.mp m with m | m
        · exact n3 m
        · exact n1 m
    · obtain ⟨_, o', ho, hnf⟩ := I1.stack.mem n1
      rw [z] at ho
      cases ho
      exact up b o z hnf
  rw [hst] at fl back
  refine wpAny_looks_onW frA hf fl fun h4 held4 up4 => ?_
  refine wpAny_landsW held4 fun h5 fl5 up5 => ?_
  have I5 : Inv X pins σ1 H1 { s1 with heap := h5 } := back fl5.1 (up4.trans up5)
  have J5 : ExcIs ea C h5 := by
    obtain ⟨o, z1, z2⟩ := fl5.there
    exact ⟨o, z1, z2⟩
  refine wpAny_handleBy_cons (codeAny_handlers_test (ld_glob (X := X.su (.ref ea)) (I5.su _) hg hm ?_ hd)) (by intro z; cases z)
  refine exc_matches (K := X.K) (P := P) I5.kIn J5 cP hC ?_
  refine codeAny_handlers_suite_as ?_
  refine lands_againW fl5 fun h6 fl6 up6 => ?_
  have I6 : Inv X pins σ1 H1 { s1 with heap := h6 } := back fl6.1 ((up4.trans up5).trans up6)
  have J6 : ExcIs ea C h6 := by
    obtain ⟨o, z1, z2⟩ := fl6.there
    exact ⟨o, z1, z2⟩
  have I7 : Inv X pins σ1 (upd H1 ea (.ext (ExcIs ea C))) { s1 with heap := h6 } := I6.track fly.fe fly.s0.1 fly.lo.1.symm (fun x c e => (fly.ce x c e).1) (fun p hp => (fly.pi p hp).1) J6.ok
  refine store_ok (X := X.su (.ref ea)) (I7.su _) hN hi (Or.inl hlo) (v := .ref ea) rfl (fun s8 I8 => ?_) (Or.inr hlo)
  refine wpAny_mono (hs _ pins s8 _ _ _ I8 (q ea fly.fe)) (fun f s9 q9 => ?_) fun _ _ z => False.elim z
  have hcls : (X.env.scope.kind == .class || (X.env.scope.kind == .module && X.env.locals != X.env.globals)) = false := by rw [I.ok.kind]; rfl
  have fin : ∀ {σ9 : St} {H9 : Hp} {R : Unit → Shared → Prop}, Inv (X.su (.ref ea)) pins σ9 H9 s9 → (∀ s10, Inv X pins (σ9.set i none) H9 s10 → R () s10) →
      wpAny (model X.prog X.w) X.A (do bindName X.env n .none; unbindBehindTheSuite X.env n hpos) R X.xe s9 := fun {σ9 H9 R} I9 k => by
    obtain ⟨m, hn, hl⟩ := I9.loc
    exact wpAny_nameGoes_keeps hlo hn hcls fun h' v hn' hs' => k _ ((I9.unsu I.ok).unname hN hi hn hl hn' hs')
  cases f with
  | next =>
    obtain ⟨σ9, H9, I9, z⟩ := q9
    exact fin I9 fun s10 I10 => ⟨_, H9, I10, z⟩
  | brk =>
    obtain ⟨σ9, H9, I9, z⟩ := q9
    exact fin I9 fun s10 I10 => ⟨_, H9, I10, z⟩
  | cont =>
    obtain ⟨σ9, H9, I9, z⟩ := q9
    exact fin I9 fun s10 I10 => ⟨_, H9, I10, z⟩
  | ret u =>
    obtain ⟨v, σ9, H9, I9, r, z⟩ := q9
    exact fin I9 fun s10 I10 => ⟨v, _, H9, I10, r, z⟩
end L2
set_option Elab.async false
set_option linter.all false
set_option maxRecDepth 100000
namespace L2
open PySem PySem.Spec PyProof.Rows
end L2
set_option Elab.async false
set_option linter.all false
set_option maxRecDepth 100000
namespace L2
open PySem PySem.Spec PyProof.Rows
def Evl (t : TE) (σ : St) (H : Hp) (v : V) : Prop := ∀ Q : VK, Q v H → t σ H Q
def Tst (t : TT) (σ : St) (H : Hp) (p : Prop) [Decidable p] : Prop := ∀ Q : Bool → Hp → Prop, Q (decide p) H → t σ H Q
section
variable {σ : St} {H : Hp} {ta tb tc : TE} {x y v : V} {i j k : Int} {K : PySem.W.Frag} {D : Ends} {n m : Nat}
theorem evl_var {i : Nat} (h : σ[i]? = some (some v)) : Evl (tVar i) σ H v := fun Q q => ⟨v, h, q⟩
theorem evl_c : Evl (tC v) σ H v := fun Q q => q
theorem evl_I0 {g : Int → Int → V} (a : Evl ta σ H (.int i)) (b : Evl tb σ H (.int j)) : Evl (tOp (rI0 g) ta tb) σ H (g i j) := fun Q q => a _ (b _ ⟨i, j, rfl, rfl, q⟩)
theorem evl_I {C : Int → Int → Prop} {g : Int → Int → V} (a : Evl ta σ H (.int i)) (b : Evl tb σ H (.int j)) (c : C i j) : Evl (tOp (rI C g) ta tb) σ H (g i j) := fun Q q => a _ (b _ ⟨i, j, rfl, rfl, c, q⟩)
theorem evl_ixT {p : Addr} {xs : List V} (a : Evl ta σ H (.ref p)) (b : Evl tb σ H (.int i)) (h : SqT K H p xs) (e : atI xs i = some v) : Evl (tOp (rIxT K) ta tb) σ H v := fun Q q => a _ (b _ ⟨p, xs, i, v, rfl, rfl, h, e, q⟩)
theorem evl_lenL {p : Addr} {ys : List V} (a : Evl ta σ H (.ref p)) (h : SqL K H p ys) : Evl (tCB (fun xs H Q => ∃ p ys, xs = [.ref p] ∧ (SqL K H p ys ∨ SqT K H p ys) ∧ Q (.int ys.length) H) (tCons ta tNil)) σ H (.int ys.length) := fun Q q => a _ ⟨p, ys, rfl, .inl h, q⟩
theorem tst_of {p : Prop} [Decidable p] (a : Evl ta σ H (.bl (decide p))) : Tst (tTest ta) σ H p := fun Q q => a _ ⟨_, rfl, q⟩
theorem tst_or {t u : TT} {p q : Prop} [Decidable p] [Decidable q] (a : Tst t σ H p) (b : Tst u σ H q) : Tst (tOr t u) σ H (p ∨ q) := fun Q z => a _ (by
  by_cases h : p
  · rw [decide_eq_true h, if_pos rfl]
    have e : decide (p ∨ q) = true := decide_eq_true (.inl h)
    rw [← e]; exact z
  · rw [decide_eq_false h, if_neg Bool.false_ne_true]
    refine b _ ?_
    have e : decide (p ∨ q) = decide q := by rw [decide_eq_decide]; exact ⟨fun z => z.resolve_left h, .inr⟩
    rw [← e]; exact z)
theorem tst_if {t : TT} {a b : TS} {p : Prop} [Decidable p] (h : Tst t σ H p) (h1 : p → a D σ H) (h2 : ¬ p → b D σ H) : tIfS t a b D σ H := h _ (by
  by_cases c : p
  · rw [decide_eq_true c, if_pos rfl]; exact h1 c
  · rw [decide_eq_false c, if_neg Bool.false_ne_true]; exact h2 c)
theorem seq_if {t : TT} {a b u : TS} {p : Prop} [Decidable p] (h : Tst t σ H p) (h1 : p → a { D with nx := u D } σ H) (h2 : ¬ p → b { D with nx := u D } σ H) : tSeq (tIfS t a b) u D σ H := tst_if h h1 h2
theorem seq_asg {i : Nat} {u : TS} (h : Evl ta σ H v) (q : u D (σ.set i (some v)) H) : tSeq (tAsg ta (gName i)) u D σ H := h _ q
theorem run_tup4 {t1 t2 t3 t4 : TE} {v1 v2 v3 v4 : V} {Q : VK} (h1 : Evl t1 σ H v1) (h2 : Evl t2 σ H v2) (h3 : Evl t3 σ H v3) (h4 : Evl t4 σ H v4) (q : ∀ p, H p = none → Q (.ref p) (upd H p (.tup [v1, v2, v3, v4]))) :
    tTup (tCons t1 (tCons t2 (tCons t3 (tCons t4 tNil)))) σ H Q := h1 _ (h2 _ (h3 _ (h4 _ ⟨by show 4 ≤ sizeLine; decide, q⟩)))
theorem cons_tup4 {t1 t2 t3 t4 : TE} {tr : TA} {v1 v2 v3 v4 : V} {Q : List V → Hp → Prop} (h1 : Evl t1 σ H v1) (h2 : Evl t2 σ H v2) (h3 : Evl t3 σ H v3) (h4 : Evl t4 σ H v4) (q : ∀ p, H p = none → tr σ (upd H p (.tup [v1, v2, v3, v4])) fun xs H2 => Q (.ref p :: xs) H2) :
    tCons (tTup (tCons t1 (tCons t2 (tCons t3 (tCons t4 tNil))))) tr σ H Q := run_tup4 (Q := fun x H1 => tr σ H1 fun xs H2 => Q (x :: xs) H2) h1 h2 h3 h4 q
theorem run_next (h : D.nx σ H) : tNext D σ H := h
theorem run_seq {t u : TS} (h : t { D with nx := u D } σ H) : tSeq t u D σ H := h
end
end L2
set_option Elab.async false
set_option linter.all false
set_option maxRecDepth 100000
namespace L2
open PySem PySem.Spec PyProof.Rows PySem.W
inductive TyX (K : Frag) (H : Hp) : V → Value → Prop where
  | of {x : V} {t : Value} (h : TyOf K H x t) : TyX K H x t
  | exc {ea C : Addr} (e : H ea = some (.ext (ExcIs ea C))) (c : ExcCls K C) : TyX K H (.ref ea) (.ref C)
def clsV : V → Value
  | .ref a => .ref a
  | .ty n => .type n
  | _ => .none
def isCls : V → Bool
  | .ref _ => true
  | .ty _ => true
  | _ => false
theorem clsV_rel : ∀ {c : V} {u : Value}, isCls c = true → RelV c u → u = clsV c
  | .ref _, _, _, r => r
  | .ty _, _, _, r => r
theorem clsV_all : ∀ {cs : List V} {us : List Value}, cs.all isCls = true → Vals cs us → us = cs.map clsV
  | _, _, _, .nil => rfl
  | c :: cs, u :: us, h, .cons r t => by
    rw [List.all_cons, Bool.and_eq_true] at h
    rw [clsV_rel h.1 r, clsV_all h.2 t]
    rfl
section
variable {X : Cx}
theorem tyx_kit {pins : List (Addr × Obj)} {σ : St} {H : Hp} {s : Shared} {x : V} {u t : Value} (I : Inv X pins σ H s) (rx : RelV x u) (ty : TyX X.K H x t) : ∃ J, KitX X.K u t J ∧ J s.heap ∧ u ≠ .builtin "__main__.__loader__#opaque" := by
  cases ty with
  | exc e c =>
    cases (show u = Value.ref _ from rx)
    obtain ⟨J, _⟩ := I.hok _ _ e
    exact ⟨_, kitx_exc c, J, fun z => nomatch z⟩
  | of ty =>
    cases ty with
    | non => cases (show u = Value.none from rx); exact ⟨_, kitx_none, True.intro, fun z => nomatch z⟩
    | bl y => cases (show u = Value.bool y from rx); exact ⟨_, kitx_bool, True.intro, fun z => nomatch z⟩
    | int i => obtain ⟨t, q⟩ := (show ∃ t, u = Value.int i t from rx); cases q; exact ⟨_, kitx_int, True.intro, fun z => nomatch z⟩
    | str y => obtain ⟨t, q⟩ := (show ∃ t, u = Value.str y t from rx); cases q; exact ⟨_, kitx_str, True.intro, fun z => nomatch z⟩
    | flt y => obtain ⟨t, q⟩ := (show ∃ t, u = Value.float y t from rx); cases q; exact ⟨_, kitx_float, True.intro, fun z => nomatch z⟩
    | @lst a xs ea =>
      cases (show u = Value.ref a from rx)
      obtain ⟨_, _, n, _, h1⟩ := (show ObjOk X.prog X.w H s.heap a (.lst xs) from I.hok a _ ea)
      exact ⟨_, kitx_list, ⟨_, h1, rfl⟩, fun z => nomatch z⟩
    | @frz a ob xs ea =>
      cases (show u = Value.ref a from rx)
      obtain ⟨_, _, _, n, _, h1⟩ := (show ObjOk X.prog X.w H s.heap a (.frz ob (.lst xs)) from I.hok a _ ea)
      exact ⟨_, kitx_list, ⟨_, h1, rfl⟩, fun z => nomatch z⟩
    | @tup a xs ea =>
      cases (show u = Value.ref a from rx)
      obtain ⟨_, _, _, p⟩ := (show ObjOk X.prog X.w H s.heap a (.tup xs) from I.hok a _ ea)
      obtain ⟨o, h1, h2, _⟩ := p
      exact ⟨_, kitx_tuple, ⟨o, h1, h2⟩, fun z => nomatch z⟩
    | @dK a kvs ea =>
      cases (show u = Value.ref a from rx)
      obtain ⟨_, _, vs, _, p⟩ := (show ObjOk X.prog X.w H s.heap a (.dK kvs) from I.hok a _ ea)
      obtain ⟨o, es, ep, h1, h2, _⟩ := p
      exact ⟨_, kitx_dict, ⟨o, h1, h2.1⟩, fun z => nomatch z⟩
    | @dT a kvs ea =>
      cases (show u = Value.ref a from rx)
      obtain ⟨_, _, xs, _, o, es, ep, h1, h2, _⟩ := (show ObjOk X.prog X.w H s.heap a (.dT kvs) from I.hok a _ ea)
      exact ⟨_, kitx_dict, ⟨o, h1, h2.1⟩, fun z => nomatch z⟩
    | @ins a C dx fs ea cl ha hn htk hm =>
      cases (show u = Value.ref a from rx)
      obtain ⟨mA, O, _⟩ := ins_get I.hok ea
      obtain ⟨od, J, _⟩ := O.look
      exact ⟨_, kitx_own (cl.get _) cl.hd ha hn htk hm, J, fun z => nomatch z⟩
theorem call_isi : CallR X (.builtin "isinstance") (fun xs H Q => ∃ x c t b, xs = [x, c] ∧ isCls c = true ∧ TyX X.K H x t ∧ kitOne X.K t (clsV c) = some b ∧ Q (.bl b) H) := by
  intro pins s σ H xs us Q I r h
  obtain ⟨x, c, t, b, rfl, hc, ty, e, q⟩ := h
  obtain ⟨u, v, rfl, r1, r2⟩ := vals2 r
  rw [clsV_rel hc r2]
  obtain ⟨J, Z, hJ, hx⟩ := tyx_kit I r1 ty
  exact kia_one Z I.kIn hJ e hx fun tk => ⟨.bl b, H, I.tok tk, rfl, q⟩
theorem call_isiT : CallR X (.builtin "isinstance") (fun xs H Q => ∃ x p cs t b, xs = [x, .ref p] ∧ SqT X.K H p cs ∧ cs.all isCls = true ∧ TyX X.K H x t ∧ kitAny X.K t (cs.map clsV) = some b ∧ Q (.bl b) H) := by
  intro pins s σ H xs us Q I r h
  obtain ⟨x, p, cs, t, b, rfl, hp, hc, ty, e, q⟩ := h
  obtain ⟨u, v, rfl, r1, r2⟩ := vals2 r
  cases (show v = Value.ref p from r2)
  obtain ⟨J, Z, hJ, hx⟩ := tyx_kit I r1 ty
  obtain ⟨its, r', pl, hz⟩ := I.tuple hp
  rw [← clsV_all hc r'] at e
  obtain ⟨⟨oc, od, dt, sl⟩, h1, h2, n, h3⟩ := (show s.heap.IsTuple p its.toArray from pl)
  have h2 : oc = .type "tuple" := h2
  have h3 : dt = .seq its.toArray n := h3
  subst h2 h3
  exact kia_tup Z I.kIn hJ h1 e hx fun tk => ⟨.bl b, H, I.tok tk, rfl, q⟩
end
end L2
set_option Elab.async false
set_option linter.all false
set_option maxRecDepth 100000
namespace L2
open PySem PySem.Spec PyProof.Rows PySem.W
end L2
set_option Elab.async false
set_option linter.all false
set_option maxRecDepth 100000
namespace L2
open PySem PySem.Spec PyProof.Rows
section
variable {X : Cx}
end
end L2
set_option Elab.async false
set_option linter.all false
set_option maxRecDepth 100000
namespace L2
open PySem PySem.Spec PyProof.Rows
theorem iteF_of {A B : Prop} (h : if false = true then A else B) : B := by rwa [if_neg Bool.false_ne_true] at h
theorem iteT_of {A B : Prop} (h : if true = true then A else B) : A := by rwa [if_pos rfl] at h
def cxComp (X : Cx) (Nc : List Str) (scope : Scope) (cl : List (Str × Addr)) (s : Shared) (H : Hp) (C : Addr) (fp : List Addr) : Cx :=
  { X with N := Nc, s₀ := s, H₀ := H, env := compEnvC scope cl C X.env, outer := X.stack, ex := fp, fn := fun _ => false, pn := [], xe := fun _ _ => False }
def seen (ix : List (Option Nat)) (σ : St) : St := ix.map fun o => match o with
  | some j => (σ[j]?).getD none
  | none => none
theorem closure_of {scope : Scope} {env : Env} (h : ∀ x ∈ scope.names, x.2 = .free → ∃ c, env.cells.lookup x.1 = some c) :
    ∃ cl, closureFor scope env = pure cl ∧ (∀ x c, cl.lookup x = some c → env.cells.lookup x = some c) ∧ ∀ x ∈ scope.names, x.2 = .free → ∃ c, cl.lookup x.1 = some c := by
  have go : ∀ (ns : List (Str × NameKind)) (cs : List (Str × Addr)), (∀ x ∈ ns, x.2 = .free → ∃ c, env.cells.lookup x.1 = some c) → (∀ x c, cs.lookup x = some c → env.cells.lookup x = some c) →
      ∃ cl, (forIn ns cs fun (x : Str × NameKind) (r : List (Str × Addr)) => (if (x.2 == .free) = true then (do let c ← cellOf env x.1; pure (ForInStep.yield ((x.1, c) :: r))) else pure (ForInStep.yield r) : Sem _)) = pure cl ∧
        (∀ x c, cl.lookup x = some c → env.cells.lookup x = some c) ∧ (∀ x ∈ ns, x.2 = .free → ∃ c, cl.lookup x.1 = some c) ∧ ∀ x c, cs.lookup x = some c → ∃ c', cl.lookup x = some c' := by
    intro ns
    induction ns with
    | nil => intro cs _ h2; exact ⟨cs, rfl, h2, fun x hx => (nomatch hx), fun x c e => ⟨c, e⟩⟩
    | cons p r ih =>
      obtain ⟨n, k⟩ := p
      intro cs h1 h2
      by_cases hk : k = .free
      · subst hk
        obtain ⟨c, hc⟩ := h1 (n, .free) List.mem_cons_self rfl
        have hcs : ∀ x c', List.lookup x ((n, c) :: cs) = some c' → env.cells.lookup x = some c' := fun x c' e => by
          rw [List.lookup_cons] at e
          cases hx : x == n with
          | true => rw [hx] at e; cases e; rw [eq_of_beq hx]; exact hc
          | false => rw [hx] at e; exact h2 x c' e
        obtain ⟨cl, e1, e2, e3, e4⟩ := ih ((n, c) :: cs) (fun x hx => h1 x (List.mem_cons_of_mem _ hx)) hcs
        refine ⟨cl, ?_, e2, fun x hx hf => ?_, fun x c' e => ?_⟩
        · rw [List.forIn_cons]
          have : cellOf env n = pure c := by unfold cellOf; rw [hc]
          simp only [beq_self_eq_true, if_true, this, pure_bind]
          exact e1
        · rcases List.mem_cons.mp hx with rfl | hx
          · exact e4 n c (by rw [List.lookup_cons, beq_self_eq_true])
          · exact e3 x hx hf
        · cases hx : x == n with
          | true => exact e4 x c (by rw [List.lookup_cons, hx])
          | false => exact e4 x c' (by rw [List.lookup_cons, hx]; exact e)
      · obtain ⟨cl, e1, e2, e3, e4⟩ := ih cs (fun x hx => h1 x (List.mem_cons_of_mem _ hx)) h2
        refine ⟨cl, ?_, e2, fun x hx hf => ?_, e4⟩
        · rw [List.forIn_cons]
          have hb : (k == NameKind.free) = false := by simpa using hk
          simp only [hb, Bool.false_eq_true, if_false, pure_bind]
          exact e1
        · rcases List.mem_cons.mp hx with rfl | hx
          · exact absurd hf hk
          · exact e3 x hx hf
  obtain ⟨cl, e1, e2, e3, _⟩ := go scope.names [] h (fun x c e => by cases e)
  refine ⟨cl, ?_, e2, e3⟩
  unfold closureFor
  simp only [bind_pure]
  exact e1
def PTs (X : Cx) (ifs : List Expr) (t : TT) : Prop :=
  ∀ (pins : List (Addr × Obj)) (s : Shared) (σ : St) (H : Hp) (Q : Bool → Hp → Prop), Inv X pins σ H s → t σ H Q →
    wpAny (model X.prog X.w) X.A (forIn ifs true fun c r => if r = true then do let ok ← isTrue c X.env (eval c X.env); pure (ForInStep.yield ok) else pure (ForInStep.yield r)) (TP X pins σ Q) X.xe s
def tYes : TT := fun _ H Q => Q true H
theorem pts_nil {X : Cx} : PTs X [] tYes := fun _ _ _ H _ I h => wpAny_tests_nil ⟨H, I, h⟩
theorem pts_one {X : Cx} {c : Expr} {t : TT} (h : PT X c t) : PTs X [c] t := fun pins s σ H Q I q => wpAny_tests_one (h pins s σ H Q I q)
def tCompR (wi : TI) (ix : List (Option Nat)) (g : TG) (tc : TT) (te : TE) (σ : St) (H : Hp) (R : List V → Hp → Prop) : Prop := wi σ H fun J H1 => ∃ W : Nat → Nat → List V → St → Hp → Prop, (∃ m, W 0 m [] (seen ix σ) H1) ∧ ∀ i m ys σ' H', W i m ys σ' H' →
  (J.stop i H' ∧ ys.length ≤ sizeLine ∧ R ys H') ∨
  (J.go i H' ∧ ys.length ≤ sizeLine ∧ ∃ N : List V → St → Hp → Prop, (∀ ys' σ2 H2, N ys' σ2 H2 → ∃ m', m' < m ∧ W (i + 1) m' ys' σ2 H2) ∧
    ∀ x H2, J.yld i H' x H2 → g x σ' H2 fun σ2 H3 => tc σ2 H3 fun b H4 => if b = true then te σ2 H4 fun y H5 => N (ys ++ [y]) σ2 H5 else N ys σ2 H4)
def tComp (wi : TI) (ix : List (Option Nat)) (g : TG) (tc : TT) (te : TE) : TE := fun σ H Q => tCompR wi ix g tc te σ H fun ys H' => ∀ l, H' l = none → Q (.ref l) (upd H' l (.lst ys))
def compOk (scope outer : Scope) (N Nc : List Str) (ix : List (Option Nat)) : Bool :=
  scope.names.all (fun y => y.2 != .cell) && scope.kind == .function && scope.names.all (fun y => y.2 != .local || scope.names.lookup y.1 == some .local) &&
  scope.names.all (fun y => y.2 != .free || outer.names.lookup y.1 == some .cell || outer.names.lookup y.1 == some .free) && ix.length == Nc.length &&
  (List.range Nc.length).all fun i => match ix[i]?, Nc[i]? with
    | some (some j), some x => N[j]? == some x && (outer.names.lookup x == some .cell || outer.names.lookup x == some .free) && scope.names.lookup x == some .free
    | _, _ => true
theorem relabel_of {env : Env} : ∀ {names : List (Str × NameKind)} {y : Str} {k : NameKind}, (∀ z ∈ names, z.2 ≠ .cell) →
    (names.map fun (n, k) => if (k == NameKind.free && env.scope.kind == .function && env.kindOf n == some .cell) then (n, NameKind.cell) else (n, k)).lookup y = some k → k = .cell ∨ k = .free → ∃ z ∈ names, z.1 = y ∧ z.2 = .free
  | [], _, _, _, h, _ => by simp at h
  | (n, k0) :: r, y, k, hc, h, hk => by
    rw [List.map_cons] at h
    have h : List.lookup y ((if (k0 == NameKind.free && env.scope.kind == .function && env.kindOf n == some .cell) = true then (n, NameKind.cell) else (n, k0)) :: _) = some k := h
    cases hx : y == n with
    | true =>
      by_cases hb : (k0 == NameKind.free && env.scope.kind == .function && env.kindOf n == some .cell) = true
      · simp only [Bool.and_eq_true, beq_iff_eq] at hb
        exact ⟨(n, k0), List.mem_cons_self, (eq_of_beq hx).symm, hb.1.1⟩
      · rw [if_neg hb, List.lookup_cons, hx] at h
        cases h
        rcases hk with rfl | rfl
        · exact absurd rfl (hc (n, .cell) List.mem_cons_self)
        · exact ⟨(n, .free), List.mem_cons_self, (eq_of_beq hx).symm, rfl⟩
    | false =>
      have h' : List.lookup y (r.map fun (n, k) => if (k == NameKind.free && env.scope.kind == .function && env.kindOf n == some .cell) then (n, NameKind.cell) else (n, k)) = some k := by
        by_cases hb : (k0 == NameKind.free && env.scope.kind == .function && env.kindOf n == some .cell) = true
        · rw [if_pos hb, List.lookup_cons, hx] at h; exact h
        · rw [if_neg hb, List.lookup_cons, hx] at h; exact h
      obtain ⟨z, hz, e1, e2⟩ := relabel_of (fun z hz => hc z (List.mem_cons_of_mem _ hz)) h' hk
      exact ⟨z, List.mem_cons_of_mem _ hz, e1, e2⟩
theorem relabel_free {env : Env} : ∀ {names : List (Str × NameKind)} {y : Str}, names.lookup y = some .free →
    (names.map fun (n, k) => if (k == NameKind.free && env.scope.kind == .function && env.kindOf n == some .cell) then (n, NameKind.cell) else (n, k)).lookup y = some .cell ∨
    (names.map fun (n, k) => if (k == NameKind.free && env.scope.kind == .function && env.kindOf n == some .cell) then (n, NameKind.cell) else (n, k)).lookup y = some .free
  | [], _, h => by simp at h
  | (n, k0) :: r, y, h => by
    rw [List.map_cons]
    show List.lookup y ((if (k0 == NameKind.free && env.scope.kind == .function && env.kindOf n == some .cell) = true then (n, NameKind.cell) else (n, k0)) :: _) = _ ∨ List.lookup y ((if (k0 == NameKind.free && env.scope.kind == .function && env.kindOf n == some .cell) = true then (n, NameKind.cell) else (n, k0)) :: _) = _
    cases hx : y == n with
    | true =>
      rw [List.lookup_cons, hx] at h
      cases h
      by_cases hb : ((NameKind.free == NameKind.free) && env.scope.kind == .function && env.kindOf n == some .cell) = true
      · rw [if_pos hb, List.lookup_cons, hx]; exact .inl rfl
      · rw [if_neg hb, List.lookup_cons, hx]; exact .inr rfl
    | false =>
      rw [List.lookup_cons, hx] at h
      by_cases hb : (k0 == NameKind.free && env.scope.kind == .function && env.kindOf n == some .cell) = true
      · rw [if_pos hb, List.lookup_cons, hx]; exact relabel_free h
      · rw [if_neg hb, List.lookup_cons, hx]; exact relabel_free h
theorem comp_core {X : Cx} {elt tg iter : Expr} {ifs : List Expr} {scope : Scope} {pos ipos : Pos} {Nc : List Str} {ix : List (Option Nat)} {wi : TI} {g : TG} {tc : TT} {te : TE} {use : Option (Value → Sem Unit)} {Q' : Value → Shared → Prop} {R : List V → Hp → Prop}
    {pins : List (Addr × Obj)} {σ : St} {H : Hp} {s : Shared} (hc : X.calm = true)
    (hcell : ∀ y ∈ scope.names, y.2 ≠ .cell) (hkind : scope.kind = .function) (hnames : ∀ y ∈ scope.names, y.2 = .local → scope.names.lookup y.1 = some .local)
    (hfree : ∀ y ∈ scope.names, y.2 = .free → X.env.kindOf y.1 = some .cell ∨ X.env.kindOf y.1 = some .free) (hvis : ∀ y k, (relabel scope X.env).names.lookup y = some k → k = .cell ∨ k = .free → ∃ z ∈ scope.names, z.1 = y ∧ z.2 = .free)
    (hlen : ix.length = Nc.length) (hix : ∀ (i : Nat) (x : Str) (j : Nat), Nc[i]? = some x → ix[i]? = some (some j) → X.N[j]? = some x ∧ Vis X.env.scope x ∧ (X.env.kindOf x = some .local → False) ∧ ((relabel scope X.env).names.lookup x = some .cell ∨ (relabel scope X.env).names.lookup x = some .free))
    (hi : PI X tg iter wi) (hg : ∀ cl s H C fp, PG (cxComp X Nc scope cl s H C fp) tg g) (hifs : ∀ cl s H C fp, PTs (cxComp X Nc scope cl s H C fp) ifs tc) (he : ∀ cl s H C fp, PE (cxComp X Nc scope cl s H C fp) elt te)
    (hs : ∀ x, foldedSetIterable iter X.env x = pure x) (I : Inv X pins σ H s) (h : tCompR wi ix g tc te σ H R)
    (fin : ∀ (D C : Addr) (oC : Obj) (ys : List V) (H3 : Hp) (s4 : Shared), (∃ m, ∀ h' : Heap, h'.get? C = some oC → h'.Ns C m) → H3 D = none → (upd H3 D (.lst ys)) C = none → Young X pins C → Inv X (pins ++ [(C, oC)]) σ (upd H3 D (.lst ys)) s4 → R ys H3 →
      compPost (model X.prog X.w) X.A X.xe use Q' (.ref D) C (.ok .next) s4) :
    wpAny (model X.prog X.w) X.A (comprehension (.ListComp elt [⟨tg, iter, ifs, 0⟩] scope pos) scope X.env ipos (newList []) false (eval iter X.env) use) Q' X.xe s := by
  obtain ⟨cl, hclos, clX, clF⟩ := closure_of (scope := scope) (env := X.env) fun x hx hf => I.ok.has x.1 (hfree x hx hf)
  refine wpAny_comprehension_free (use := use) rfl hs hclos hkind hnames (thn (hi pins s σ H _ I h) fun v s1 h1 => thn h1 fun itv s2 h2 => ?_)
  obtain ⟨it, fp, tn, J, H1, rfl, I1, T, t0, hfp, W, ⟨m0, w0⟩, turn⟩ := h2
  refine wpAny_newObj_type (wpAny_newFunctionEnv hcell (by intro y hy; simp at hy) (fun h₁ hns₁ hsb₁ => ?_) hkind)
  dsimp only at hns₁ hsb₁ ⊢
  generalize hH2 : s2.heap.push { cls := .type "list", dict := none, data := .seq ([] : List Value).toArray } = H2 at hns₁ hsb₁ ⊢
  have hC : H2.objs.size = s2.heap.objs.size + 1 := by rw [← hH2, Heap.size_push]
  have hDC : s2.heap.objs.size ≠ H2.objs.size := by rw [hC]; exact Nat.ne_of_lt (Nat.lt_succ_self _)
  have old : ∀ b o, s2.heap.get? b = some o → h₁.get? b = some o := fun b o e => by
    have hb := Heap.lt_size e
    exact hsb₁.extBut b o (by rw [hC]; exact Nat.ne_of_lt (Nat.lt_succ_of_lt hb)) (Heap.get?_push_of_some _ (hH2 ▸ Heap.get?_push_of_some _ e))
  obtain ⟨e0, hacc⟩ : ∃ e0, h₁.get? s2.heap.objs.size = some (seqObj "list" ([] : List Value).toArray e0) := ⟨_, hsb₁.extBut _ _ hDC (Heap.get?_push_of_some _ (hH2 ▸ Heap.get?_push_size _ rfl))⟩
  generalize hCC : H2.objs.size = C at hns₁ hsb₁ hDC hC ⊢
  generalize hDD : s2.heap.objs.size = D at hDC hC hacc ⊢
  have hDle : s2.heap.objs.size ≤ D := Nat.le_of_eq hDD
  have hCle : s2.heap.objs.size ≤ C := by rw [hC, ← hDD]; exact Nat.le_succ _
  have yD := I1.young hDle
  have nD : H1 D = none := I1.hok.fresh hDle
  have nC : H1 C = none := I1.hok.fresh hCle
  have fpLt : ∀ b ∈ fp, b < s2.heap.objs.size := fun b hb => by
    obtain ⟨o, e, _⟩ := T.obj 0 _ t0 b hb
    exact Heap.lt_size e
  have fpD : D ∉ fp := fun hm => absurd (fpLt _ hm) (Nat.not_lt.mpr hDle)
  have fpC : C ∉ fp := fun hm => absurd (fpLt _ hm) (Nat.not_lt.mpr hCle)
  have frN : ∀ b ∈ frs X.stack, b < s2.heap.objs.size := fun b hb => by
    obtain ⟨_, o, ho, _⟩ := I1.stack.mem hb
    exact Heap.lt_size ho
  have frFp : ∀ b ∈ fp, b ∉ frs X.stack := fun b hb hm => by
    rcases List.mem_cons.mp (I1.stkSub b hm) with z | z
    · exact (hfp b hb).2.1 z
    · exact (hfp b hb).2.2.1 z
  -- the block's context
  have ok : (cxComp X Nc scope cl s2 H1 C fp).Ok :=
    ⟨I.ok.mod, (by show (relabel scope X.env).kind = _; exact hkind), I.ok.glob, I.ok.blt, hCle, (fun x y c e1 e2 => I.ok.inj x y c (clX x c e1) (clX y c e2)),
      (fun x hx => by
        obtain ⟨z, hz, rfl, hf⟩ : ∃ z ∈ scope.names, z.1 = x ∧ z.2 = .free := by
          rcases hx with hx | hx
          · exact hvis x _ hx (.inl rfl)
          · exact hvis x _ hx (.inr rfl)
        exact clF z hz hf), (fun x c z => nomatch z), I.ok.hd, I.ok.frames, .inl rfl,
      (fun b hb => ⟨fun z => fpC ((show b = C from z) ▸ hb), fun x c e => (hfp b hb).2.2.2.2.1 x c (clX x c e)⟩), (fun b o e => I1.bs b o e), Nat.le_trans I.ok.bsz I1.sz,
      (fun b o e hb => by
        rcases (hfp b hb).2.2.2.1 with z | z
        · exact I.ok.noex b o e z
        · have := Heap.lt_size (I.ok.bs b o e).1
          exact absurd this (Nat.not_lt.mpr z)),
      frFp, I1.stack, I1.stkFree⟩
  have start : ∀ tk, Inv (cxComp X Nc scope cl s2 H1 C fp) [(D, seqObj "list" ([] : List Value).toArray e0)] (seen ix σ) H1 { s2 with heap := h₁, toks := tk } := fun tk => by
    refine ⟨ok, rfl, I1.bare, Un.kept old, ⟨_, hns₁, fun i x v e1 e2 e3 => ?_⟩, fun x c e => ?_, nC, fun x c e => I1.freeC x c (clX x c e), fun p hp => ?_, I1.hok.kept old, by show (seen ix σ).length = Nc.length; unfold seen; rw [List.length_map]; exact hlen⟩
    · unfold seen at e2
      rw [List.getElem?_map] at e2
      cases ei : ix[i]? with
      | none => rw [ei] at e2; cases e2
      | some o =>
        rw [ei] at e2
        cases o with
        | none => cases e2
        | some j =>
          have e2' : (σ[j]?).getD none = some v := Option.some.inj e2
          have e2'' : σ[j]? = some (some v) := by
            cases ej : σ[j]? with
            | none => rw [ej] at e2'; cases e2'
            | some z => rw [ej] at e2'; exact congrArg some e2'
          obtain ⟨n1, n2, n3, n4⟩ := hix i x j e1 ei
          obtain ⟨m, hm, hl⟩ := I1.loc
          obtain ⟨u, ru, lk⟩ := hl j x v n1 e2'' n2
          refine ⟨u, ru, .inr ⟨n4, ?_⟩⟩
          rcases lk with ⟨k, _⟩ | ⟨_, c, ec, hc'⟩
          · exact (n3 k).elim
          · obtain ⟨z, hz, rfl, hf⟩ : ∃ z ∈ scope.names, z.1 = x ∧ z.2 = .free := by
              rcases n4 with hx | hx
              · exact hvis x _ hx (.inl rfl)
              · exact hvis x _ hx (.inr rfl)
            obtain ⟨c', ec'⟩ := clF z hz hf
            have : c' = c := Option.some.inj ((clX _ _ ec').symm.trans ec)
            subst this
            obtain ⟨o, ho, hd⟩ := hc'
            exact ⟨c', ec', o, old _ o ho, hd⟩
    · obtain ⟨v, o, ho, hd⟩ := I1.cell x c (clX x c e)
      exact ⟨v, o, old _ o ho, hd⟩
    · have hp' : p = (D, seqObj "list" ([] : List Value).toArray e0) := by simpa [cxComp] using hp
      subst hp'
      exact ⟨hacc, nD, hDC, fun hm => absurd (frN _ hm) (Nat.not_lt.mpr hDle), fun v z => by cases z⟩
  have stat : ∀ {ks : List Value} {e : Nat} {H' : Hp}, (∀ b ∈ fp, H' b = none) → ∀ b ∈ fp, FpOk (cxComp X Nc scope cl s2 H1 C fp) [(D, seqObj "list" ks.toArray e)] H' b := fun {ks e H'} hn b hb =>
    ⟨hn b hb, fun z => fpC ((show b = C from z) ▸ hb), frFp b hb, .inl hb, fun x c ec => (hfp b hb).2.2.2.2.1 x c (clX x c ec), fun p hp z => by
      have hp' : p = (D, seqObj "list" ks.toArray e) := by simpa [cxComp] using hp
      subst hp'
      exact fpD ((show b = D from z.symm) ▸ hb)⟩
  have loop : ∀ tk, codeAny (model X.prog X.w) X.A (.compLoop (.ListComp elt [⟨tg, iter, ifs, 0⟩] scope pos) 0 (.ref it) (.ref D) (compEnvC scope cl C X.env)) (compPost (model X.prog X.w) X.A X.xe use Q' (.ref D) C) { s2 with heap := h₁, toks := tk } := fun tk => by
    refine codeAny_loop rfl (fun n s' => ∃ i ys ks e σ' H', Inv (cxComp X Nc scope cl s2 H1 C fp) [(D, seqObj "list" ks.toArray e)] σ' H' s' ∧ Vals ys ks ∧ tn i s'.heap ∧ (∀ b ∈ fp, H' b = none) ∧ W i n ys σ' H') ?_ m0
      ⟨0, [], [], e0, _, H1, start tk, .nil, T.keep _ _ _ t0 fun b _ o e => old b o e, fun b hb => (hfp b hb).1, w0⟩
    rintro n s3 ⟨i, ys, ks, e, σ3, H3, I3, rv, st3, fr3, w3⟩
    show wpAny _ X.A ((compTurn (.ListComp elt [⟨tg, iter, ifs, 0⟩] scope pos) 0 (.ref it) (.ref D) (compEnvC scope cl C X.env)).onRaise (fun x => do noteFrame x (compEnvC scope cl C X.env); theTreesLotGoes x)) _ _ s3
    refine wpAny_noted ?_
    rw [compTurn_list]
    refine wpAny_bind (wpAny_standAt ?_)
    have lk := rv.length
    rcases turn i n ys σ3 H3 w3 with ⟨stop, sz, q⟩ | ⟨go, sz, N, hN, step⟩
    · refine wpAny_bind (thn (T.done (cxComp X Nc scope cl s2 H1 C fp) rfl rfl rfl hc i _ s3 σ3 H3 _ I3 (stat fr3) st3 stop) fun r s4 ⟨hr, I4⟩ => ?_)
      subst hr
      refine wpAny_pure ?_
      obtain ⟨m, ⟨oC, esC, epC, hoC, hdC, rC⟩, _⟩ := I4.loc
      have hoC : s4.heap.get? C = some oC := hoC
      have pD := I4.pin (D, seqObj "list" ks.toArray e) (List.mem_append_right _ List.mem_cons_self)
      have nC4 : H3 C = none := I4.free
      have yC := I1.young hCle
      have I5 : Inv X pins σ H3 s4 := I1.call' (ch := fp) I4.os (show Un (frs X.stack) fp H1 H3 s2.heap s4.heap from I4.base) I4.hok I4.bare fun b hb => ⟨(hfp b hb).2.2.2.1, (hfp b hb).2.1, (hfp b hb).2.2.2.2.1, (hfp b hb).2.2.2.2.2⟩
      have I6 := I5.track (p := D) (o := .lst ys) pD.2.1 (Heap.get?_none_of_le (Nat.le_trans I1.sz hDle)) yD.lo yD.ce yD.pi ⟨sz, ks, e, rv, pD.1⟩
      have nC6 : (upd H3 D (.lst ys)) C = none := by rw [upd_ne hDC.symm]; exact nC4
      have I7 : Inv X (pins ++ [(C, oC)]) σ (upd H3 D (.lst ys)) s4 := I6.pins_of fun p hp => by
        rcases List.mem_append.mp hp with hp | hp
        · exact I6.pin p (List.mem_append_right _ hp)
        · obtain rfl := List.mem_singleton.mp hp
          exact ⟨hoC, nC6, yC.lo, yC.fs, fun v z => by rw [hdC] at z; cases z⟩
      exact fin D C oC ys H3 s4 ⟨m, fun h' e' => ⟨oC, esC, epC, e', hdC, rC⟩⟩ pD.2.1 nC6 yC I7 q
    · refine wpAny_bind (thn (T.item (cxComp X Nc scope cl s2 H1 C fp) rfl rfl rfl hc i _ s3 σ3 H3 _ I3 (stat fr3) st3 go) fun r s4 ⟨u, hr, h4⟩ => ?_)
      subst hr
      refine wpAny_bind (thn h4 fun _ s5 ⟨x, H5, I5, r5, y5, st5, fr5⟩ => ?_)
      have I5' := I5.pinned (stat fr5) (T.obj _ _ st5)
      refine wpAny_bind (wpAny_mono (hg cl s2 H1 C fp _ s5 σ3 H5 x u _ I5' r5 (step x H5 y5)) (fun _ s6 ⟨σ6, H6, I6, q6⟩ => ?_) fun _ _ z => False.elim z)
      refine wpAny_bind (wpAny_mono (hifs cl s2 H1 C fp _ s6 σ6 H6 _ I6 q6) (fun ok s7 ⟨H7, I7, q7⟩ => ?_) fun _ _ z => False.elim z)
      have fin : ∀ {ks' : List Value} {e' : Nat} {ys' : List V} {σ8 : St} {H8 : Hp} {s8 : Shared}, Inv (cxComp X Nc scope cl s2 H1 C fp) ([(D, seqObj "list" ks'.toArray e')] ++ pinsAt fp s5.heap) σ8 H8 s8 → Vals ys' ks' → N ys' σ8 H8 →
          ∃ m, m < n ∧ ∃ i ys ks e σ' H', Inv (cxComp X Nc scope cl s2 H1 C fp) [(D, seqObj "list" ks.toArray e)] σ' H' s8 ∧ Vals ys ks ∧ tn i s8.heap ∧ (∀ b ∈ fp, H' b = none) ∧ W i m ys σ' H' := fun {ks' e' ys' σ8 H8 s8} I8 rv' n8 => by
        obtain ⟨m', hm, w8⟩ := hN _ σ8 H8 n8
        refine ⟨m', hm, i + 1, ys', ks', e', σ8, H8, I8.unpinned, rv', T.keep _ _ _ st5 fun b hb o eo => (I8.pin (b, o) (List.mem_append_right _ (List.mem_append_right _ (mem_pinsAt hb eo)))).1, fun b hb => ?_, w8⟩
        obtain ⟨o, eo, d⟩ := T.obj _ _ st5 b hb
        exact (I8.pin (b, o) (List.mem_append_right _ (List.mem_append_right _ (mem_pinsAt hb eo)))).2.1
      cases ok with
      | false =>
        have q7 := iteF_of q7
        exact wpAny_pure ⟨rfl, fin I7 rv q7⟩
      | true =>
        have q7 := iteT_of q7
        refine wpAny_bind (wpAny_bind (wpAny_mono (he cl s2 H1 C fp _ s7 σ6 H7 _ I7 q7) (fun y s8 ⟨vy, H8, I8, ry, n8⟩ => ?_) fun _ _ z => False.elim z))
        have pD := I8.pin (D, seqObj "list" ks.toArray e) (List.mem_append_right _ (List.mem_append_left _ List.mem_cons_self))
        refine wpAny_bind (wpAny_list_append_plain (hsz := by rw [List.size_toArray, ← lk]; exact sz) ⟨e, pD.1⟩ fun h9 hl9 hs9 => ?_)
        refine wpAny_pure (wpAny_pure ⟨rfl, ?_⟩)
        obtain ⟨e9, hl9⟩ := hl9
        have ea : ks.toArray.push y = (ks ++ [y]).toArray := by simp
        rw [ea] at hl9
        refine fin (ks' := ks ++ [y]) (e' := e9) (ys' := ys ++ [vy]) ?_ (Vals.append rv (.cons ry .nil)) n8
        have ne9 : ∀ p ∈ pinsAt fp s5.heap, p.1 ≠ D := fun p hp z => fpD (z ▸ (of_pinsAt hp).1)
        have yDb : Young (cxComp X Nc scope cl s2 H1 C fp) (pinsAt fp s5.heap) D := ⟨hDC, fun hm => absurd (frN _ hm) (Nat.not_lt.mpr hDle), .inr hDle, fun x c ec => yD.ce x c (clX x c ec), fun p hp => ne9 p (by simpa [cxComp] using hp)⟩
        have I8a : Inv (cxComp X Nc scope cl s2 H1 C fp) (pinsAt fp s5.heap) σ6 H8 s8 := I8.pins_of fun p hp => I8.pin p (List.mem_append_right _ (List.mem_append_right _ hp))
        have I8b := I8a.record yDb pD.2.1 hs9
        exact I8b.pins_of fun p hp => by
          rcases List.mem_append.mp hp with hp | hp
          · obtain rfl := List.mem_singleton.mp hp
            exact ⟨hl9, pD.2.1, yDb.lo, yDb.fs, fun v z => by cases z⟩
          · exact I8b.pin p (List.mem_append_right _ hp)
  exact codeAny_compStart_list (loop _) (T.self _ 0 _ _ _ (T.keep _ _ _ t0 fun b _ o e => old b o e) (loop _))
theorem compOk_all {X : Cx} {scope : Scope} {Nc : List Str} {ix : List (Option Nat)} (h : compOk scope X.env.scope X.N Nc ix = true) : (∀ y ∈ scope.names, y.2 ≠ .cell) ∧ scope.kind = .function ∧ (∀ y ∈ scope.names, y.2 = .local → scope.names.lookup y.1 = some .local) ∧
    (∀ y ∈ scope.names, y.2 = .free → X.env.kindOf y.1 = some .cell ∨ X.env.kindOf y.1 = some .free) ∧ ix.length = Nc.length ∧
    ∀ (i : Nat) (x : Str) (j : Nat), Nc[i]? = some x → ix[i]? = some (some j) → X.N[j]? = some x ∧ Vis X.env.scope x ∧ (X.env.kindOf x = some .local → False) ∧ ((relabel scope X.env).names.lookup x = some .cell ∨ (relabel scope X.env).names.lookup x = some .free) := by
  unfold compOk at h
  simp only [Bool.and_eq_true, beq_iff_eq, List.all_eq_true, Bool.or_eq_true, bne_iff_ne] at h
  obtain ⟨⟨⟨⟨⟨h1, h2⟩, h3⟩, h4⟩, h5⟩, h6⟩ := h
  refine ⟨h1, h2, fun y hy e => ?_, fun y hy e => ?_, h5, fun i x j e1 e2 => ?_⟩
  · rcases h3 y hy with z | z
    · exact absurd e z
    · exact z
  · rcases h4 y hy with (z | z) | z
    · exact absurd e z
    · exact .inl z
    · exact .inr z
  · have q := h6 i (List.mem_range.mpr (List.getElem?_eq_some_iff.mp e1).1)
    rw [e1, e2] at q
    simp only [Bool.and_eq_true, beq_iff_eq, Bool.or_eq_true] at q
    obtain ⟨⟨q1, q2⟩, q3⟩ := q
    refine ⟨q1, ?_, fun z => ?_, relabel_free q3⟩
    · rcases q2 with z | z
      · exact .inr (.inl z)
      · exact .inr (.inr z)
    · have z' : X.env.scope.names.lookup x = some .local := z
      rcases q2 with y | y
      · rw [y] at z'; cases z'
      · rw [y] at z'; cases z'
theorem pe_comp {X : Cx} {elt tg iter : Expr} {ifs : List Expr} {scope : Scope} {pos : Pos} {Nc : List Str} {ix : List (Option Nat)} {wi : TI} {g : TG} {tc : TT} {te : TE} (hc : X.calm = true) (hok : compOk scope X.env.scope X.N Nc ix = true)
    (hi : PI X tg iter wi) (hg : ∀ cl s H C fp, PG (cxComp X Nc scope cl s H C fp) tg g) (hifs : ∀ cl s H C fp, PTs (cxComp X Nc scope cl s H C fp) ifs tc) (he : ∀ cl s H C fp, PE (cxComp X Nc scope cl s H C fp) elt te)
    (hs : ∀ x, foldedSetIterable iter X.env x = pure x := by intro _; rfl) : PE X (.ListComp elt [⟨tg, iter, ifs, 0⟩] scope pos) (tComp wi ix g tc te) := by
  intro pins s σ H Q I h
  obtain ⟨h1, h2, h3, h4, h5, h6⟩ := compOk_all hok
  rw [eval_ListComp]
  refine comp_core (Q' := EP X pins σ Q) hc h1 h2 h3 h4 (fun y k e hk => relabel_of h1 e hk) h5 h6 hi hg hifs he hs I h fun D C oC ys H3 s4 hN nD nC yC I4 q => ?_
  have pC := I4.pin (C, oC) (List.mem_append_right _ (List.mem_append_right _ List.mem_cons_self))
  obtain ⟨m, hm⟩ := hN
  exact ⟨m, hm _ pC.1, fun h' hsb => ⟨.ref D, _, I4.unpinned.record yC nC hsb, rfl, q D nD⟩⟩
def sComp (i : Nat) (wi : TI) (ix : List (Option Nat)) (g : TG) (tc : TT) (te : TE) : TS := fun D σ H => tCompR wi ix g tc te σ H fun ys H' => ∀ l, H' l = none → D.nx (σ.set i (some (.ref l))) (upd H' l (.lst ys))
theorem ps_comp {X : Cx} {i : Nat} {y : Str} {elt tg iter : Expr} {ifs : List Expr} {scope : Scope} {pos spos py : Pos} {Nc : List Str} {ix : List (Option Nat)} {wi : TI} {g : TG} {tc : TT} {te : TE} (hN : X.N.Nodup) (hi' : X.N[i]? = some y) (hx : Loc X.env.scope y) (hc : X.calm = true) (hok : compOk scope X.env.scope X.N Nc ix = true)
    (hi : PI X tg iter wi) (hg : ∀ cl s H C fp, PG (cxComp X Nc scope cl s H C fp) tg g) (hifs : ∀ cl s H C fp, PTs (cxComp X Nc scope cl s H C fp) ifs tc) (he : ∀ cl s H C fp, PE (cxComp X Nc scope cl s H C fp) elt te)
    (hs : ∀ x, foldedSetIterable iter X.env x = pure x := by intro _; rfl) (hsw : swapsWith (.ListComp elt [⟨tg, iter, ifs, 0⟩] scope pos) (some (.Name y py)) spos.line X.env = pure true := by rfl)
    (hf : X.fn y = true ∨ X.env.scope.names.lookup y = some .local := by first | exact .inl rfl | exact .inr rfl | assumption) : PS X (.Assign [.Name y py] (.ListComp elt [⟨tg, iter, ifs, 0⟩] scope pos) spos) (sComp i wi ix g tc te) := by
  intro pins s σ H D I h
  obtain ⟨h1, h2, h3, h4, h5, h6⟩ := compOk_all hok
  rw [exec_Assign_Name_used _ _ _ _ hsw]
  refine wpAny_bind (wpAny_standAt (wpAny_bind ?_))
  show wpAny _ X.A (do let _ ← comprehension (.ListComp elt [⟨tg, iter, ifs, 0⟩] scope pos) scope X.env _ (newList []) false (eval iter X.env) (some (assign (.Name y py) X.env))) _ _ s
  refine wpAny_bind (wpAny_mono (comp_core (Q' := fun _ s' => SP X pins D .next s') hc h1 h2 h3 h4 (fun y k e hk => relabel_of h1 e hk) h5 h6 hi hg hifs he hs I h fun Da C oC ys H3 s4 hN' nD nC yC I4 q => ?_)
    (fun _ s' hq => wpAny_pure (wpAny_pure hq)) fun _ _ e => e)
  show wpAny _ _ (assign (.Name y py) X.env (.ref Da)) _ _ s4
  refine thn (pg_name (i := i) hN hi' hx hf _ s4 σ _ (.ref Da) (.ref Da) (fun σ' H' => σ' = σ.set i (some (.ref Da)) ∧ H' = upd H3 Da (.lst ys)) I4 rfl ⟨rfl, rfl⟩) fun _ s5 ⟨σ5, H5, I5, e1, e2⟩ => ?_
  subst e1 e2
  have pC := I5.pin (C, oC) (List.mem_append_right _ (List.mem_append_right _ List.mem_cons_self))
  obtain ⟨m, hm⟩ := hN'
  exact ⟨m, hm _ pC.1, fun h' hsb => ⟨_, _, I5.unpinned.record yC nC hsb, q Da nD⟩⟩
end L2
set_option Elab.async false
set_option linter.all false
set_option maxRecDepth 100000
namespace L2
open PySem PySem.Spec PyProof.Rows
section
variable {X : Cx}
theorem lst_walk {pins : List (Addr × Obj)} {σ : St} {H : Hp} {s : Shared} {a : Addr} {its : List Value} (I : Inv X pins σ H s) (tp : s.heap.IsList a its.toArray) (hc : X.calm = true) {Q : Value → Shared → Prop}
    (q : ∀ s2 : Shared, s2 = { s with heap := s.heap.push { cls := .type "list_iterator", data := .fields #[.ref a, .int 0 0] } } → Walks X.prog X.w X.A.in1 s.heap.objs.size [s.heap.objs.size, a] [s.heap.objs.size] its.toArray.size (fun i v => its.toArray[i]? = some v) (fun i h => h.IsListIter s.heap.objs.size a i ∧ h.IsList a its.toArray) →
      (s2.heap.IsListIter s.heap.objs.size a 0 ∧ s2.heap.IsList a its.toArray) → (∀ b ∈ [s.heap.objs.size, a], b < s2.heap.objs.size) → Q (.ref s.heap.objs.size) s2) : wpAny (model X.prog X.w) X.A.in1 (pyIter (.ref a)) Q X.xe s := by
  have hlt : a < s.heap.objs.size := by obtain ⟨_, e, _⟩ := tp; exact Heap.lt_size e
  refine wpAny_pyIter_list tp (q _ rfl (Walks.list (by exact I.ok.hd hc) _ _ (Nat.ne_of_lt hlt) _) ⟨⟨_, Heap.get?_push_size _ rfl, rfl, rfl⟩, ?_⟩ fun b hb => ?_)
  · obtain ⟨o, e, r⟩ := tp
    exact ⟨o, Heap.get?_push_of_some _ e, r⟩
  · show b < (s.heap.push _).objs.size
    rw [Heap.size_push]
    rcases List.mem_cons.mp hb with rfl | hb
    · exact Nat.lt_succ_self _
    · rw [List.mem_singleton.mp hb]
      exact Nat.lt_succ_of_lt hlt
theorem bools_of {bs : List Bool} {its : List Value} (r : Vals (bs.map V.bl) its) : ∀ (i : Nat) (v : Value), its.toArray[i]? = some v → v = Value.bool (bs.getD i false) := by
  intro i v e
  rw [List.getElem?_toArray] at e
  have hl := r.length
  have hi : i < its.length := (List.getElem?_eq_some_iff.mp e).1
  rw [List.length_map] at hl
  have hx : (bs.map V.bl)[i]? = some (.bl (bs.getD i false)) := by
    rw [List.getElem?_map, List.getElem?_eq_getElem (by omega)]
    simp [List.getD, show i < bs.length by omega]
  obtain ⟨u, hu, ru⟩ := r.get hx
  rw [e] at hu
  cases hu
  exact ru
theorem all_range (bs : List Bool) : (List.range bs.length).all (fun i => bs.getD i false) = bs.all id := by
  rw [Bool.eq_iff_iff, List.all_eq_true, List.all_eq_true]
  constructor
  · intro h b hb
    obtain ⟨i, hi, rfl⟩ := List.mem_iff_getElem.mp hb
    have := h i (List.mem_range.mpr hi)
    rwa [getD_at hi] at this
  · intro h i hi
    have hi := List.mem_range.mp hi
    rw [getD_at hi]
    exact h _ (List.getElem_mem hi)
theorem call_allL (hc : X.calm = true) : CallR X (.builtin "all") (fun xs H Q => ∃ (a : Addr) (bs : List Bool), xs = [.ref a] ∧ SqL X.K H a (bs.map V.bl) ∧ Q (.bl (bs.all id)) H) := by
  intro pins s σ H xs us Q I r h
  obtain ⟨a, bs, rfl, hq, q⟩ := h
  obtain ⟨u, rfl, ru⟩ := vals1 r
  cases ru
  obtain ⟨its, rv, tp, hz⟩ := I.list hq
  have hl := rv.length
  rw [List.length_map] at hl
  refine call_all_walk (lst_walk I tp.isList hc fun s2 e W st hfp => ?_)
  subst e
  refine ⟨_, _, _, _, _, _, fun i => bs.getD i false, rfl, W, st, fun i v A' Q' E' hP hQ => ?_, fun h' tk hk => ?_⟩
  · have := bools_of rv i v hP
    subst this
    exact wpAny_truthy_bool hQ
  · refine ⟨.bl _, H, I.kept (t' := tk) fun b o e => hk b o (fun m => ?_) (Heap.get?_push_of_some _ e), ?_, q⟩
    · have := Heap.lt_size e
      rw [List.mem_singleton.mp m] at this
      exact Nat.lt_irrefl _ this
    · show Value.bool _ = Value.bool _
      rw [List.size_toArray, ← hl, all_range]
end
end L2
set_option Elab.async false
set_option linter.all false
set_option maxRecDepth 100000
namespace L2
open PySem PySem.Spec PyProof.Rows
inductive EqR (K : PySem.W.Frag) (H : Hp) : Nat → V → V → Bool → Prop where
  | flat {n : Nat} {x y : V} (fx : flatV x = true) (fy : flatV y = true) : EqR K H n x y (eqV x y)
  | tups {n : Nat} {a b : Addr} {xs ys : List V} {e : Nat → Bool} (ha : SqT K H a xs) (hb : SqT K H b ys) (he : ∀ j, j < xs.length → j < ys.length → EqR K H n (xs.getD j .non) (ys.getD j .non) (e j)) :
      EqR K H (n + 1) (.ref a) (.ref b) ((List.range (min xs.length ys.length)).all e && xs.length == ys.length)
  | lsts {n : Nat} {a b : Addr} {xs ys : List V} {e : Nat → Bool} (ha : SqL K H a xs) (hb : SqL K H b ys) (hl : xs.length = ys.length) (he : ∀ j, j < xs.length → EqR K H n (xs.getD j .non) (ys.getD j .non) (e j)) :
      EqR K H (n + 1) (.ref a) (.ref b) ((List.range xs.length).all e)
  | lens {n : Nat} {a b : Addr} {xs ys : List V} (ha : SqL K H a xs) (hb : SqL K H b ys) (hl : xs.length ≠ ys.length) : EqR K H (n + 1) (.ref a) (.ref b) false
theorem eqV_refl : ∀ {x : V}, flatV x = true → eqV x x = true
  | .non, _ => rfl
  | .bl b, _ => beq_self_eq_true b
  | .int i, _ => beq_self_eq_true i
  | .str s, _ => beq_self_eq_true s
section
variable {X : Cx} {pins : List (Addr × Obj)} {σ : St} {H : Hp} {s : Shared}
theorem EqR.refl (I : Inv X pins σ H s) {n : Nat} {x y : V} {b : Bool} (h : EqR X.K H n x y b) : x = y → b = true := by
  induction h with
  | flat fx fy => intro e; subst e; exact eqV_refl fx
  | @tups n a b xs ys e ha hb he ih =>
    intro z
    cases z
    have := I.tuple_inj ha hb
    subst this
    rw [beq_self_eq_true, Bool.and_true, List.all_eq_true]
    intro j hj
    have hj := List.mem_range.mp hj
    exact ih j (by omega) (by omega) rfl
  | @lsts n a b xs ys e ha hb hl he ih =>
    intro z
    cases z
    have := I.list_inj ha hb
    subst this
    rw [List.all_eq_true]
    intro j hj
    exact ih j (List.mem_range.mp hj) rfl
  | @lens n a b xs ys ha hb hl =>
    intro z
    cases z
    exact absurd (by rw [I.list_inj ha hb]) hl
theorem EqR.at (I : Inv X pins σ H s) {n : Nat} {x y : V} {b : Bool} (h : EqR X.K H n x y b) : ∀ {A : Around} {u v : Value}, RelV x u → RelV y v → A.units + n < cLine → SeqAt.EqAt A s u v b := by
  induction h with
  | flat fx fy => intro A u v ru rv _; exact eqAt_V ru rv fx fy
  | @tups n a b xs ys e ha hb he ih =>
    intro A u v ru rv hu
    cases ru
    cases rv
    by_cases hab : a = b
    · have := EqR.refl I (EqR.tups (n := n) ha hb he) (by rw [hab])
      rw [this, hab]
      exact SeqAt.EqAt.same _
    · obtain ⟨i1, r1, p1, z1⟩ := I.tuple ha
      obtain ⟨i2, r2, p2, z2⟩ := I.tuple hb
      have l1 := r1.length
      have l2 := r2.length
      have := SeqAt.RcAt.tuples (A := A) (e := e) (show s.heap.IsTuple a i1.toArray from p1) (show s.heap.IsTuple b i2.toArray from p2) (by omega) fun j h1 h2 => by
        have h1' : j < i1.length := by simpa using h1
        have h2' : j < i2.length := by simpa using h2
        have q := ih j (by omega) (by omega) (A := A.in1) (val_at r1 h1') (val_at r2 h2') (by show A.units + 1 + n < cLine; omega)
        simpa using q
      rw [List.size_toArray, List.size_toArray, ← l1, ← l2] at this
      exact SeqAt.EqAt.of_refs hab this
  | @lsts n a b xs ys e ha hb hl he ih =>
    intro A u v ru rv hu
    cases ru
    cases rv
    by_cases hab : a = b
    · have := EqR.refl I (EqR.lsts (n := n) ha hb hl he) (by rw [hab])
      rw [this, hab]
      exact SeqAt.EqAt.same _
    · obtain ⟨i1, r1, p1, z1⟩ := I.list ha
      obtain ⟨i2, r2, p2, z2⟩ := I.list hb
      have l1 := r1.length
      have l2 := r2.length
      have := SeqAt.RcAt.lists (A := A) (e := e) p1.isList p2.isList (by simp; omega) (by omega) fun j h1 h2 => by
        have h1' : j < i1.length := by simpa using h1
        have h2' : j < i2.length := by simpa using h2
        have q := ih j (by omega) (A := A.in1) (val_at r1 h1') (val_at r2 h2') (by show A.units + 1 + n < cLine; omega)
        simpa using q
      rw [List.size_toArray, ← l1] at this
      exact SeqAt.EqAt.of_refs hab this
  | @lens n a b xs ys ha hb hl =>
    intro A u v ru rv hu
    cases ru
    cases rv
    obtain ⟨i1, r1, p1, z1⟩ := I.list ha
    obtain ⟨i2, r2, p2, z2⟩ := I.list hb
    have l1 := r1.length
    have l2 := r2.length
    have hab : a ≠ b := fun z => by subst z; exact hl (by rw [I.list_inj ha hb])
    exact SeqAt.EqAt.of_refs hab (SeqAt.RcAt.lists_lengths p1.isList p2.isList (by simp; omega) (by omega))
def rEqR (K : PySem.W.Frag) (neg : Bool) : R2 := fun x y H Q => ∃ (a c : Addr) (n : Nat) (b : Bool), x = .ref a ∧ y = .ref c ∧ EqR K H n x y b ∧ n ≤ 50 ∧ Q (.bl (if neg then !b else b)) H
theorem op_eqR (hu : X.A.units + 64 < cLine) : OpR X (compareOp .Eq) (rEqR X.K false) := by
  intro pins s σ H x y v u Q I rx ry h
  obtain ⟨a, c, n, b, rfl, rfl, e, hn, q⟩ := h
  cases rx
  cases ry
  have fin : ∀ {k : Bool}, k = b → EP X pins σ Q (.bool k) s := fun z => ⟨.bl b, H, I, by rw [z]; rfl, q⟩
  cases e with
  | flat fx fy => exact absurd (show false = true from fx) Bool.false_ne_true
  | @tups n _ _ xs ys e ha hb he =>
    obtain ⟨i1, r1, p1, z1⟩ := I.tuple ha
    obtain ⟨i2, r2, p2, z2⟩ := I.tuple hb
    have l1 := r1.length
    have l2 := r2.length
    refine SeqAt.eq_tupleAt (e := e) (show s.heap.IsTuple a i1.toArray from p1) (show s.heap.IsTuple c i2.toArray from p2) (by omega) (fun j h1 h2 => ?_) (fin ?_)
    · have h1' : j < i1.length := by simpa using h1
      have h2' : j < i2.length := by simpa using h2
      have q := (he j (by omega) (by omega)).at I (A := X.A.in1) (val_at r1 h1') (val_at r2 h2') (by show X.A.units + 1 + n < cLine; omega)
      simpa using q
    · rw [List.size_toArray, List.size_toArray, ← l1, ← l2]
  | @lsts n _ _ xs ys e ha hb hl he =>
    obtain ⟨i1, r1, p1, z1⟩ := I.list ha
    obtain ⟨i2, r2, p2, z2⟩ := I.list hb
    have l1 := r1.length
    have l2 := r2.length
    refine SeqAt.eq_listAt (e := e) p1.isList p2.isList (by simp; omega) (by omega) (fun j h1 h2 => ?_) (fin ?_)
    · have h1' : j < i1.length := by simpa using h1
      have h2' : j < i2.length := by simpa using h2
      have q := (he j (by omega)).at I (A := X.A.in1) (val_at r1 h1') (val_at r2 h2') (by show X.A.units + 1 + n < cLine; omega)
      simpa using q
    · rw [List.size_toArray, ← l1]
  | @lens n _ _ xs ys ha hb hl =>
    obtain ⟨i1, r1, p1, z1⟩ := I.list ha
    obtain ⟨i2, r2, p2, z2⟩ := I.list hb
    have l1 := r1.length
    have l2 := r2.length
    exact SeqAt.eq_list_lengthsAt p1.isList p2.isList (by simp; omega) (by omega) (fin rfl)
theorem op_neR (hu : X.A.units + 64 < cLine) : OpR X (compareOp .NotEq) (rEqR X.K true) := by
  intro pins s σ H x y v u Q I rx ry h
  obtain ⟨a, c, n, b, rfl, rfl, e, hn, q⟩ := h
  cases rx
  cases ry
  have fin : ∀ {k : Bool}, k = b → EP X pins σ Q (.bool (!k)) s := fun z => ⟨.bl (!b), H, I, by rw [z]; rfl, q⟩
  cases e with
  | flat fx fy => exact absurd (show false = true from fx) Bool.false_ne_true
  | @tups n _ _ xs ys e ha hb he =>
    obtain ⟨i1, r1, p1, z1⟩ := I.tuple ha
    obtain ⟨i2, r2, p2, z2⟩ := I.tuple hb
    have l1 := r1.length
    have l2 := r2.length
    refine SeqAt.RcNeAt.tuples (e := e) (show s.heap.IsTuple a i1.toArray from p1) (show s.heap.IsTuple c i2.toArray from p2) (by omega) (fun j h1 h2 => ?_) _ _ _ _ (fin ?_)
    · have h1' : j < i1.length := by simpa using h1
      have h2' : j < i2.length := by simpa using h2
      have q := (he j (by omega) (by omega)).at I (A := X.A.in1) (val_at r1 h1') (val_at r2 h2') (by show X.A.units + 1 + n < cLine; omega)
      simpa using q
    · rw [List.size_toArray, List.size_toArray, ← l1, ← l2]
  | @lsts n _ _ xs ys e ha hb hl he =>
    obtain ⟨i1, r1, p1, z1⟩ := I.list ha
    obtain ⟨i2, r2, p2, z2⟩ := I.list hb
    have l1 := r1.length
    have l2 := r2.length
    refine SeqAt.RcNeAt.lists (e := e) p1.isList p2.isList (by simp; omega) (by omega) (fun j h1 h2 => ?_) _ _ _ _ (fin ?_)
    · have h1' : j < i1.length := by simpa using h1
      have h2' : j < i2.length := by simpa using h2
      have q := (he j (by omega)).at I (A := X.A.in1) (val_at r1 h1') (val_at r2 h2') (by show X.A.units + 1 + n < cLine; omega)
      simpa using q
    · rw [List.size_toArray, ← l1]
  | @lens n _ _ xs ys ha hb hl =>
    obtain ⟨i1, r1, p1, z1⟩ := I.list ha
    obtain ⟨i2, r2, p2, z2⟩ := I.list hb
    have l1 := r1.length
    have l2 := r2.length
    exact SeqAt.RcNeAt.lists_lengths p1.isList p2.isList (by simp; omega) (by omega) _ _ _ _ (fin (k := false) rfl)
end
end L2
set_option Elab.async false
set_option linter.all false
set_option maxRecDepth 100000
namespace L2
open PySem PySem.Spec PyProof.Rows PySem.W
end L2
set_option Elab.async false
set_option linter.all false
set_option maxRecDepth 100000
namespace L2
open PySem PySem.Spec PyProof.Rows
section
variable {g : TG} {tc : TT} {te : TE} {σ0 : St} {H0 : Hp} {R : List V → Hp → Prop} {K : PySem.W.Frag} {a : Addr} {xs : List V}
theorem cmp_gen {J : It} {n : Nat} (Pv : Nat → List V → St → Hp → Prop) (h0 : Pv 0 [] σ0 H0) (hz : ∀ i ys σ H, i ≤ n → Pv i ys σ H → ys.length ≤ sizeLine) (hst : ∀ ys σ H, Pv n ys σ H → J.stop n H ∧ R ys H)
    (hgo : ∀ i ys σ H, i < n → Pv i ys σ H → J.go i H ∧ ∀ x H2, J.yld i H x H2 → g x σ H2 fun σ2 H3 => tc σ2 H3 fun b H4 => if b = true then te σ2 H4 fun y H5 => Pv (i + 1) (ys ++ [y]) σ2 H5 else Pv (i + 1) ys σ2 H4) :
    ∃ W : Nat → Nat → List V → St → Hp → Prop, (∃ m, W 0 m [] σ0 H0) ∧ ∀ i m ys σ' H', W i m ys σ' H' →
      (J.stop i H' ∧ ys.length ≤ sizeLine ∧ R ys H') ∨
      (J.go i H' ∧ ys.length ≤ sizeLine ∧ ∃ N : List V → St → Hp → Prop, (∀ ys' σ2 H2, N ys' σ2 H2 → ∃ m', m' < m ∧ W (i + 1) m' ys' σ2 H2) ∧
        ∀ x H2, J.yld i H' x H2 → g x σ' H2 fun σ2 H3 => tc σ2 H3 fun b H4 => if b = true then te σ2 H4 fun y H5 => N (ys ++ [y]) σ2 H5 else N ys σ2 H4) := by
  refine ⟨fun i m ys σ H => m = n - i ∧ i ≤ n ∧ Pv i ys σ H, ⟨n, by simp, Nat.zero_le _, h0⟩, ?_⟩
  rintro i m ys σ H ⟨rfl, hi, p⟩
  by_cases hlt : i < n
  · obtain ⟨go, turn⟩ := hgo i ys σ H hlt p
    exact .inr ⟨go, hz i ys σ H hi p, Pv (i + 1), fun ys' σ' H' p' => ⟨n - (i + 1), by omega, rfl, hlt, p'⟩, turn⟩
  · have e : i = n := by omega
    subst e
    obtain ⟨st, r⟩ := hst ys σ H p
    exact .inl ⟨st, hz i ys σ H hi p, r⟩
theorem cmp_list (Pv : Nat → List V → St → Hp → Prop) (h0 : Pv 0 [] σ0 H0) (hz : ∀ i ys σ H, i ≤ xs.length → Pv i ys σ H → ys.length ≤ sizeLine ∧ SqL K H a xs) (hst : ∀ ys σ H, Pv xs.length ys σ H → R ys H)
    (hgo : ∀ i x ys σ H, xs[i]? = some x → Pv i ys σ H → g x σ H fun σ2 H3 => tc σ2 H3 fun b H4 => if b = true then te σ2 H4 fun y H5 => Pv (i + 1) (ys ++ [y]) σ2 H5 else Pv (i + 1) ys σ2 H4) :
    ∃ W : Nat → Nat → List V → St → Hp → Prop, (∃ m, W 0 m [] σ0 H0) ∧ ∀ i m ys σ' H', W i m ys σ' H' →
      ((Itl K a).stop i H' ∧ ys.length ≤ sizeLine ∧ R ys H') ∨
      ((Itl K a).go i H' ∧ ys.length ≤ sizeLine ∧ ∃ N : List V → St → Hp → Prop, (∀ ys' σ2 H2, N ys' σ2 H2 → ∃ m', m' < m ∧ W (i + 1) m' ys' σ2 H2) ∧
        ∀ x H2, (Itl K a).yld i H' x H2 → g x σ' H2 fun σ2 H3 => tc σ2 H3 fun b H4 => if b = true then te σ2 H4 fun y H5 => N (ys ++ [y]) σ2 H5 else N ys σ2 H4) :=
  cmp_gen (n := xs.length) Pv h0 (fun i ys σ H hi p => (hz i ys σ H hi p).1) (fun ys σ H p => ⟨⟨xs, (hz _ ys σ H (Nat.le_refl _) p).2, Nat.le_refl _⟩, hst ys σ H p⟩)
    fun i ys σ H hi p => ⟨⟨xs, xs[i], (hz i ys σ H (Nat.le_of_lt hi) p).2, by simp [hi]⟩, fun x H2 y => by
      obtain ⟨e, y⟩ := y
      subst e
      exact hgo i x ys σ _ (y xs (hz i ys σ _ (Nat.le_of_lt hi) p).2) p⟩
theorem cmp_range {lo : Int} {n : Nat} (Pv : Nat → List V → St → Hp → Prop) (h0 : Pv 0 [] σ0 H0) (hz : ∀ i ys σ H, i ≤ n → Pv i ys σ H → ys.length ≤ sizeLine) (hst : ∀ ys σ H, Pv n ys σ H → R ys H)
    (hgo : ∀ i ys σ H, i < n → Pv i ys σ H → g (.int (lo + i)) σ H fun σ2 H3 => tc σ2 H3 fun b H4 => if b = true then te σ2 H4 fun y H5 => Pv (i + 1) (ys ++ [y]) σ2 H5 else Pv (i + 1) ys σ2 H4) :
    ∃ W : Nat → Nat → List V → St → Hp → Prop, (∃ m, W 0 m [] σ0 H0) ∧ ∀ i m ys σ' H', W i m ys σ' H' →
      ((Itr lo n).stop i H' ∧ ys.length ≤ sizeLine ∧ R ys H') ∨
      ((Itr lo n).go i H' ∧ ys.length ≤ sizeLine ∧ ∃ N : List V → St → Hp → Prop, (∀ ys' σ2 H2, N ys' σ2 H2 → ∃ m', m' < m ∧ W (i + 1) m' ys' σ2 H2) ∧
        ∀ x H2, (Itr lo n).yld i H' x H2 → g x σ' H2 fun σ2 H3 => tc σ2 H3 fun b H4 => if b = true then te σ2 H4 fun y H5 => N (ys ++ [y]) σ2 H5 else N ys σ2 H4) :=
  cmp_gen (n := n) Pv h0 hz (fun ys σ H p => ⟨Nat.le_refl _, hst ys σ H p⟩) fun i ys σ H hi p => ⟨hi, fun x H2 y => by
    obtain ⟨e, y⟩ := y
    subst e y
    exact hgo i ys σ _ hi p⟩
end
end L2
set_option Elab.async false
set_option linter.all false
set_option maxRecDepth 100000
namespace L2
open PySem PySem.Spec PyProof.Rows PySem.W
section
variable {X : Cx} {pins : List (Addr × Obj)} {σ : St} {H : Hp} {s : Shared}
end
end L2
set_option Elab.async false
set_option linter.all false
set_option maxRecDepth 100000
namespace L2
open PySem PySem.Spec PyProof.Rows PySem.W
def txt (l : List Nat) : Str := ⟨l.toArray⟩
theorem txt_len (l : List Nat) : (txt l).length = l.length := by simp [txt, Str.length]
theorem txt_inj {a b : List Nat} (h : txt a = txt b) : a = b := by
  have : (txt a).cps.toList = (txt b).cps.toList := by rw [h]
  simpa [txt] using this
theorem fold_reps (c : Nat) : ∀ (n : Nat) (acc : Array Nat), (List.replicate n (#[c] : Array Nat)).foldl (· ++ ·) acc = acc ++ (List.replicate n c).toArray
  | 0, acc => by simp
  | n + 1, acc => by
    rw [List.replicate_succ, List.foldl_cons, fold_reps c n (acc ++ #[c])]
    apply Array.toList_inj.mp
    simp [List.replicate_succ]
theorem mul_one_sign {c : Nat} {n : Int} (h0 : 0 ≤ n) : Txt.mul (txt [c]) n = txt (List.replicate n.toNat c) := by
  unfold Txt.mul
  by_cases h1 : n < 1
  · rw [if_pos h1]
    have e : n.toNat = 0 := by omega
    rw [e]
    rfl
  · rw [if_neg h1]
    by_cases h2 : n = 1
    · subst h2
      rfl
    · have e : (n == 1 || (txt [c]).length == 0) = false := by
        rw [beq_eq_false_iff_ne.mpr h2]
        rfl
      rw [e, if_neg Bool.false_ne_true]
      have := fold_reps c n.toNat #[]
      show (⟨(List.replicate n.toNat (#[c] : Array Nat)).foldl (· ++ ·) #[]⟩ : Str) = _
      rw [this]
      simp [txt]
section
variable {X : Cx}
theorem op_repS : OpR X (binaryOp .Mult) (fun x y H Q => ∃ (c : Nat) (n : Int), x = .str (txt [c]) ∧ y = .int n ∧ 0 ≤ n ∧ n ≤ 1000000 ∧ Q (.str (txt (List.replicate n.toNat c))) H) := by
  intro pins s σ H x y v u Q I rx ry h
  obtain ⟨c, n, rfl, rfl, h0, h1, q⟩ := h
  obtain ⟨t, rfl⟩ := rx
  obtain ⟨t', rfl⟩ := ry
  have hl : (txt [c]).length = 1 := rfl
  refine SB.mul ⟨?_, fun _ _ => ?_, fun _ _ => ?_⟩ fun tk k => ⟨.str _, H, I.tok k, ⟨tk, by rw [mul_one_sign h0]⟩, q⟩
  · rw [decide_eq_false (by omega), decide_eq_false (by omega)]
    rfl
  · rw [hl]
    have hn : 0 < n := by omega
    intro z
    have z' : (2 ^ 63 - 1) / n < 1 := by simpa using z
    have := (Int.ediv_lt_iff_lt_mul hn).mp z'
    omega
  · rw [hl]
    unfold Builtin.Str.tooLong sizeLine
    rw [decide_eq_false_iff_not]
    omega
theorem strs_vals : ∀ {zs : List Str} {us : List Value}, Vals (zs.map V.str) us → StrsAre us zs
  | [], _, .nil => .nil
  | z :: zs, _, .cons ⟨t, e⟩ r => by
    subst e
    exact .cons z t (strs_vals r)
def rIxC : R2 := fun x y H Q => ∃ (l : List Nat) (i : Int) (c : Nat), x = .str (txt l) ∧ y = .int i ∧ l.length ≤ 1000000 ∧ atI l i = some c ∧ Q (.str (txt [c])) H
theorem ix_sign : IxR X rIxC := by
  intro value slice pins s σ H x y v u Q I rx ry h hs
  obtain ⟨l, i, c, rfl, rfl, hl, hc, q⟩ := h
  exact ix_str value slice pins s σ H _ _ v u Q I rx ry ⟨txt l, i, c, rfl, rfl, by rw [txt_len]; exact Nat.le_trans hl (by decide), by simpa [txt] using hc, q⟩ hs
end
end L2
set_option Elab.async false
set_option linter.all false
set_option maxRecDepth 100000
namespace L2
open PySem PySem.Spec PyProof.Rows PySem.W
section
variable {X : Cx} {K : Frag}
theorem ix_tupK (hK : X.K = K) : IxR X (rIxT K) := by subst hK; exact ix_tup
end
end L2
set_option Elab.async false
set_option linter.all false
namespace Lin
abbrev W := List Nat
def glue : List W → W
  | [] => []
  | [a] => a
  | a :: b :: r => a ++ 32 :: glue (b :: r)
section
variable {ws : List W} {wide : Int}
end
end Lin
set_option Elab.async false
set_option linter.all false
set_option maxRecDepth 100000
namespace L2
open PySem PySem.Spec PyProof.Rows PySem.W
theorem txt_app (a b : List Nat) : txt a ++ txt b = txt (a ++ b) := by
  refine Str.ext' ?_
  rw [Str.cps_append]
  simp [txt]
section
variable {X : Cx} {tg : Expr}
theorem join_glue : ∀ (ls : List (List Nat)), Str.join (txt [32]) (ls.map txt) = txt (Lin.glue ls)
  | [] => rfl
  | [a] => rfl
  | a :: b :: r => by
    have ih := join_glue (b :: r)
    show txt a ++ txt [32] ++ Str.join (txt [32]) ((b :: r).map txt) = _
    rw [ih, txt_app, txt_app]
    simp [Lin.glue]
theorem mt_joinB : MtR X "str.join" (fun x vs H Q => ∃ (a : Addr) (ls : List (List Nat)), x = .str " " ∧ vs = [.ref a] ∧ SqL X.K H a (ls.map fun l => V.str (txt l)) ∧ (ls.map List.length).sum + ls.length ≤ 1000000 ∧ Q (.str (txt (Lin.glue ls))) H) := by
  intro pins s σ H x xs v us Q I rx rxs h
  obtain ⟨a, ls, rfl, rfl, hq, hn, q⟩ := h
  obtain ⟨t, rfl⟩ := rx
  obtain ⟨u, rfl, ru⟩ := vals1 rxs
  cases ru
  obtain ⟨its, rv, tp, hz⟩ := I.list hq
  have rv' : Vals ((ls.map txt).map V.str) its := by rw [List.map_map]; exact rv
  refine join_list (ys := ls.map txt) tp.isList (by simpa using strs_vals rv') ?_ fun t' k => ⟨.str _, H, I.tok k, ⟨t', ?_⟩, q⟩
  · rw [List.map_map]
    have e1 : (ls.map ((fun x => x.length) ∘ txt)) = ls.map List.length := List.map_congr_left fun l _ => txt_len l
    rw [e1]
    have e2 : (" " : Str).length = 1 := rfl
    rw [e2, List.length_map]
    omega
  · show Value.str (Txt.join " " (ls.map txt)) t' = _
    have e : Txt.join " " (ls.map txt) = txt (Lin.glue ls) := by
      unfold Txt.join
      rw [StrLaws.glued_eq_join]
      exact join_glue ls
    rw [e]
end
section
variable {g : TG} {tc : TT} {te : TE} {σ0 : St} {H0 : Hp} {R : List V → Hp → Prop} {l : List Nat}
end
section
variable {σ : St} {H : Hp} {ta tb : TE}
theorem evl_lenS {w : List Nat} (a : Evl ta σ H (.str (txt w))) (h : w.length ≤ 1000000) : Evl (tCB (fun xs H Q => ∃ z : Str, xs = [.str z] ∧ z.length ≤ sizeLine ∧ Q (.int z.length) H) (tCons ta tNil)) σ H (.int (w.length : Nat)) := fun Q q =>
  a _ ⟨txt w, rfl, by rw [txt_len]; exact Nat.le_trans h (by decide), by rw [txt_len]; exact q⟩
theorem while_n {c : TT} {tb : TS} {D : Ends} (Pv : Nat → St → Hp → Prop) (m0 : Nat) (h0 : Pv m0 σ H)
    (hs : ∀ m σ H, Pv m σ H → ∃ (p : Prop) (_ : Decidable p), Tst c σ H p ∧ (p → tb { D with nx := fun σ' H' => ∃ m', m' < m ∧ Pv m' σ' H', ct := fun σ' H' => ∃ m', m' < m ∧ Pv m' σ' H', bk := D.nx } σ H) ∧ (¬ p → D.nx σ H)) : tWhile c tb D σ H := by
  refine ⟨Pv, ⟨m0, h0⟩, fun m σ H p => ?_⟩
  obtain ⟨q, dq, t, h1, h2⟩ := hs m σ H p
  refine t _ ?_
  by_cases z : q
  · rw [decide_eq_true z, if_pos rfl]
    exact ⟨_, fun _ _ y => y, h1 z⟩
  · rw [decide_eq_false z, if_neg Bool.false_ne_true]
    exact h2 z
theorem seq_key {t u : TS} {D : Ends} (R : St → Hp → Prop) (h3 : ∀ σ H, R σ H → u D σ H) (h : (∀ σ H, R σ H → u D σ H) → t { D with nx := u D } σ H) : tSeq t u D σ H := h h3
theorem run_gname {i : Nat} {v : V} {Q : St → Hp → Prop} (h : Q (σ.set i (some v)) H) : gName i v σ H Q := h
theorem seq_lst {t : TA} {i : Nat} {u : TS} {D : Ends} (h : t σ H fun xs H1 => xs.length ≤ sizeLine ∧ ∀ p, H1 p = none → u D (σ.set i (some (.ref p))) (upd H1 p (.lst xs))) : tSeq (tAsg (tLst t) (gName i)) u D σ H := h
end
end L2
set_option Elab.async false
set_option linter.all false
set_option maxRecDepth 100000
namespace L2
open PySem PySem.Spec PyProof.Rows PySem.W
section
variable {P : Program} {w : World} {K : PySem.W.Frag} {mg : Str → Option Value} {base : Heap} {N : List Str} {qual : Str} {scope : Scope} {f : Addr} {cd : Value} {A : Around} {outer : List Env} {s₀ : Shared} {H₀ : Hp} {E : XK}
end
end L2
set_option Elab.async false
set_option linter.all false
set_option maxRecDepth 100000
namespace L2
open PySem PySem.Spec PyProof.Rows
section
variable {g : TG} {tc : TT} {te : TE} {σ0 : St} {H0 : Hp} {R : List V → Hp → Prop} {K : PySem.W.Frag} {a b : Addr} {xs ys : List V}
end
end L2
set_option Elab.async false
set_option linter.all false
set_option maxRecDepth 100000
namespace Lin
theorem app_inj : ∀ {a b : W} {x y : W}, 32 ∉ a → 32 ∉ b → a ++ 32 :: x = b ++ 32 :: y → a = b ∧ x = y
  | [], [], x, y, _, _, h => by cases h; exact ⟨rfl, rfl⟩
  | [], c :: b, x, y, _, hb, h => by
    cases h
    exact absurd List.mem_cons_self hb
  | c :: a, [], x, y, ha, _, h => by
    cases h
    exact absurd List.mem_cons_self ha
  | c :: a, d :: b, x, y, ha, hb, h => by
    have h : c :: (a ++ 32 :: x) = d :: (b ++ 32 :: y) := h
    injection h with h1 h2
    obtain ⟨e1, e2⟩ := app_inj (fun z => ha (List.mem_cons_of_mem _ z)) (fun z => hb (List.mem_cons_of_mem _ z)) h2
    exact ⟨by rw [h1, e1], e2⟩
theorem glue_inj : ∀ (A B : List W), A ≠ [] → B ≠ [] → (∀ a ∈ A, 32 ∉ a) → (∀ b ∈ B, 32 ∉ b) → glue A = glue B → A = B
  | [], _, h, _, _, _, _ => absurd rfl h
  | _, [], _, h, _, _, _ => absurd rfl h
  | [a], [b], _, _, _, _, h => by
    have h : a = b := h
    rw [h]
  | [a], b :: c :: r, _, _, ha, _, h => by
    have h : a = b ++ 32 :: glue (c :: r) := h
    exact absurd (by rw [h]; simp) (ha a List.mem_cons_self)
  | a :: c :: r, [b], _, _, _, hb, h => by
    have h : a ++ 32 :: glue (c :: r) = b := h
    exact absurd (by rw [← h]; simp) (hb b List.mem_cons_self)
  | a :: c :: r, b :: d :: t, _, _, ha, hb, h => by
    have h : a ++ 32 :: glue (c :: r) = b ++ 32 :: glue (d :: t) := h
    obtain ⟨e1, e2⟩ := app_inj (ha a List.mem_cons_self) (hb b List.mem_cons_self) h
    rw [e1, glue_inj (c :: r) (d :: t) (by simp) (by simp) (fun z hz => ha z (List.mem_cons_of_mem _ hz)) (fun z hz => hb z (List.mem_cons_of_mem _ hz)) e2]
end Lin
namespace L2
open PySem PySem.Spec PyProof.Rows PySem.Builtin PySem.Builtin.Str Lin
theorem txt_toList (p : Str) : txt p.cps.toList = p := by
  refine Str.ext' ?_
  simp [txt]
theorem vals_strs : ∀ {l : List (Str × Tok)} {ws : List W}, l.map (·.1) = ws.map txt → Vals (ws.map fun w => V.str (txt w)) (strValues l)
  | [], [], _ => .nil
  | [], _ :: _, h => nomatch h
  | _ :: _, [], h => nomatch h
  | (x, t) :: l, w :: ws, h => by
    injection h with h1 h2
    have h1 : x = txt w := h1
    subst h1
    exact .cons ⟨t, rfl⟩ (vals_strs h2)
section
variable {X : Cx}
end
end L2
set_option Elab.async false
set_option linter.all false
set_option maxRecDepth 100000
set_option maxHeartbeats 1000000
namespace L2
open PySem PySem.Spec PyProof.Rows PySem.Builtin PySem.Builtin.Str Lin
theorem split_ne (x y : Str) : Txt.split x y ≠ [] := by
  unfold Txt.split
  split
  · simp
  · split
    · simp
    · rw [StrLaws.partsBetween_eq]
      obtain ⟨p, q, e⟩ := StrLaws.partsFrom_ne x y.length 0 (occurrences x y 0 x.length (x.length + 1))
      rw [e]
      simp
theorem split_glueG {ws : List W} (hn : ws ≠ []) (hw : ∀ w ∈ ws, 32 ∉ w) : Txt.split (txt (glue ws)) (txt [32]) = ws.map txt := by
  have j := StrLaws.join_split (txt (glue ws)) (txt [32])
  have fr := StrLaws.split_free (txt (glue ws)) 32
  have fr : ∀ p ∈ Txt.split (txt (glue ws)) (txt [32]), 32 ∉ p.cps.toList := fr
  have nn : Txt.split (txt (glue ws)) (txt [32]) ≠ [] := split_ne _ _
  generalize Txt.split (txt (glue ws)) (txt [32]) = ps at j fr nn
  have e : (ps.map fun p => p.cps.toList).map txt = ps := by
    rw [List.map_map]
    conv => rhs; rw [← List.map_id ps]
    exact List.map_congr_left fun p _ => txt_toList p
  rw [← e, join_glue] at j
  have j := txt_inj j
  have ne : (ps.map fun p => p.cps.toList) ≠ [] := fun z => nn (List.map_eq_nil_iff.mp z)
  have q := glue_inj _ _ ne hn (fun a ha => by
    obtain ⟨p, hp, rfl⟩ := List.mem_map.mp ha
    exact fr p hp) (fun b hb => hw b hb) j
  rw [← q, e]
section
variable {X : Cx}
theorem mt_splitG : MtR X "str.split" (fun x vs H Q => ∃ ws : List W, x = .str (txt (glue ws)) ∧ vs = [.str " "] ∧ ws ≠ [] ∧ (∀ w ∈ ws, 32 ∉ w) ∧ (glue ws).length ≤ 1000000 ∧ ws.length ≤ 1000000 ∧ ∀ l, H l = none → Q (.ref l) (upd H l (.lst (ws.map fun w => V.str (txt w))))) := by
  intro pins s σ H x xs v us Q I rx rxs h
  obtain ⟨ws, rfl, rfl, hn, hw, hl, hl2, q⟩ := h
  obtain ⟨t, rfl⟩ := rx
  obtain ⟨z, rfl, u, rfl⟩ := vals1 rxs
  have eb : (" " : Str) = txt [32] := by decide +kernel
  rw [eb]
  have hs := split_glueG hn hw
  have hx : (txt (glue ws)).length ≤ 1000000 := by rw [txt_len]; exact hl
  have big : (1000002 : Nat) ≤ sizeLine := by decide
  generalize txt (glue ws) = x at hs hx
  have hy : ((txt [32]).length == 0) = false := by decide +kernel
  have fin : ∀ (l : List (Str × Tok)) (k : Nat), l.map (·.1) = Txt.split x (txt [32]) → EP X pins σ Q (.ref s.heap.objs.size) { s with heap := s.heap.push { cls := .type "list", data := .seq (strValues l).toArray }, toks := k } := fun l k e =>
    ⟨.ref s.heap.objs.size, _, I.laid (t' := k) (fun b u e => Heap.get?_push_of_some _ e) (Nat.le_refl _) (show ObjOk X.prog X.w _ _ _ (.lst (ws.map fun w => V.str (txt w))) from ⟨by rw [List.length_map]; omega, strValues l, _, vals_strs (e.trans hs), Heap.get?_push_size _ rfl⟩), rfl, q _ (I.hok.fresh (Nat.le_refl _))⟩
  have hnn : (partsBetween x (occurrences x (txt [32]) 0 x.length (x.length + 1)) (txt [32]).length).length ≤ sizeLine := by
    have e1 := StrLaws.occ_length_le x (txt [32]) 0 x.length (x.length + 1)
    rw [length_partsBetween]
    omega
  cases h1 : (decide (x.length < (txt [32]).length) || decide (strKind x < strKind (txt [32])))
  · cases hf : (occurrences x (txt [32]) 0 x.length (x.length + 1)).isEmpty
    · refine call_meets F.slot_str_split (typeIs_str _ _ _) F.entry_str_split (F.args_str_split_2 _ _) (meets_str_split_sep x (txt [32]) t u h1 hy hf (by omega) hnn) ?_
      show wants _ _ _ { s with toks := _, heap := s.heap.push { cls := .type "list", data := .seq (strsFrom s.toks (partsBetween x (occurrences x (txt [32]) 0 x.length (x.length + 1)) (txt [32]).length)).toArray } }
      rw [strsFrom_eq]
      exact fin (numbered s.toks _) _ ((numbered_texts _ _).trans ((if_neg (ne_true_of_eq_false h1)).trans (if_neg (ne_true_of_eq_false hf))).symm)
    · exact call_meets F.slot_str_split (typeIs_str _ _ _) F.entry_str_split (F.args_str_split_2 _ _) (meets_str_split_not_found x (txt [32]) t u h1 hy hf)
        (fin [(x, t)] s.toks ((if_neg (ne_true_of_eq_false h1)).trans (if_pos hf)).symm)
  · exact call_meets F.slot_str_split (typeIs_str _ _ _) F.entry_str_split (F.args_str_split_2 _ _) (meets_str_split_cannot_occur x (txt [32]) t u h1)
      (fin [(x, t)] s.toks (if_pos h1).symm)
end
end L2
set_option Elab.async false
set_option linter.all false
set_option maxRecDepth 100000
set_option maxHeartbeats 1000000
namespace L2
open PySem PySem.Spec PyProof.Rows PySem.Builtin PySem.Builtin.Str Lin
def cutN (w : List Nat) (lo hi : Option Int) : List Nat := (w.drop (HT.sIx w.length 0 lo)).take (HT.sIx w.length w.length hi - HT.sIx w.length 0 lo)
def clipI (n : Nat) (d : Int) : Option Int → Int
  | none => d
  | some i => Max.max (0 : Int) (Min.min (if i < 0 then i + (n : Int) else i) (n : Int))
theorem clip_ix (n d : Nat) (v : Option Int) : clipI n (d : Int) v = ((HT.sIx n d v : Nat) : Int) := by
  cases v with
  | none => rfl
  | some i =>
    show Max.max (0 : Int) (Min.min (if i < 0 then i + (n : Int) else i) (n : Int)) = (((if i < 0 then (i + (n : Int)).toNat else Min.min i.toNat n) : Nat) : Int)
    by_cases c : i < 0
    · rw [if_pos c, if_pos c]
      omega
    · rw [if_neg c, if_neg c]
      omega
theorem slice_ixs (n : Nat) (lo hi : Option Int) : strSliceIndices lo hi 1 n = (List.range (HT.sIx n n hi - HT.sIx n 0 lo)).map fun k => HT.sIx n 0 lo + k := by
  have e1 := clip_ix n 0 lo
  have e2 := clip_ix n n hi
  have key : strSliceIndices lo hi 1 n = sliceRange (clipI n ((0 : Nat) : Int) lo) (clipI n (n : Int) hi) 1 := by
    cases lo <;> cases hi <;> rfl
  rw [key, e1, e2]
  generalize HT.sIx n 0 lo = a
  generalize HT.sIx n n hi = b
  unfold sliceRange
  simp only [show ((1 : Int) > 0) = True from by simp, if_true]
  have ec : (if (a : Int) < (b : Int) then ((b : Int) - a + 1 - 1) / 1 else 0).toNat = b - a := by
    split
    · rw [Int.ediv_one]
      omega
    · show 0 = b - a
      omega
  rw [ec]
  refine List.map_congr_left fun k _ => ?_
  omega
theorem sIx_le (n : Nat) (lo : Option Int) : HT.sIx n 0 lo ≤ n := by
  cases lo with
  | none => exact Nat.zero_le _
  | some i =>
    show (if i < 0 then (i + (n : Int)).toNat else min i.toNat n) ≤ n
    split <;> omega
theorem sIx_le' (n : Nat) (hi : Option Int) : HT.sIx n n hi ≤ n := by
  cases hi with
  | none => exact Nat.le_refl _
  | some i =>
    show (if i < 0 then (i + (n : Int)).toNat else min i.toNat n) ≤ n
    split <;> omega
theorem cutN_len (w : List Nat) (lo hi : Option Int) : (cutN w lo hi).length ≤ w.length := by
  unfold cutN
  rw [List.length_take, List.length_drop]
  omega
theorem slice_txt (w : List Nat) (lo hi : Option Int) : (if ((1 : Int) == 1 && (strSliceIndices lo hi 1 (txt w).length).length == (txt w).length) = true then txt w else ⟨((strSliceIndices lo hi 1 (txt w).length).filterMap ((txt w).cps[·]?)).toArray⟩) = txt (cutN w lo hi) := by
  rw [txt_len, slice_ixs]
  have a1 := sIx_le w.length lo
  have b1 := sIx_le' w.length hi
  have pk := StrLaws.picks w (HT.sIx w.length w.length hi - HT.sIx w.length 0 lo) (HT.sIx w.length 0 lo) (by omega)
  have e : (((List.range (HT.sIx w.length w.length hi - HT.sIx w.length 0 lo)).map fun k => HT.sIx w.length 0 lo + k).filterMap ((txt w).cps[·]?)) = cutN w lo hi := by
    unfold cutN
    rw [← pk]
    refine congrArg (fun f => List.filterMap f _) (funext fun i => ?_)
    show w.toArray[i]? = w[i]?
    simp
  rw [e]
  split
  · rename_i c
    rw [List.length_map, List.length_range] at c
    have c : HT.sIx w.length w.length hi - HT.sIx w.length 0 lo = w.length := by simpa using c
    unfold cutN
    have z : HT.sIx w.length 0 lo = 0 ∨ w.length = 0 := by omega
    rw [c]
    rcases z with z | z
    · rw [z, List.drop_zero, List.take_length]
    · rw [List.length_eq_zero_iff.mp z]
      simp
  · rfl
section
variable {X : Cx}
def rSlS : V → Option Int → Option Int → Hp → VK → Prop := fun x lo hi H Q => ∃ w : List Nat, x = .str (txt w) ∧ w.length ≤ 1000000 ∧ Q (.str (txt (cutN w lo hi))) H
theorem sl_str : SlR X rSlS := by
  intro pins s σ H x v vl vu lo hi sl Q I rx hs pl pu h
  obtain ⟨w, rfl, hl, q⟩ := h
  obtain ⟨t, rfl⟩ := rx
  refine ⟨"str", _, F.slot_str_getitem.lookup, typeIs_str _ _ _, ?_⟩
  have big : (1000002 : Nat) ≤ sizeLine := by decide
  have fin : ∀ (l u : Option (Int × Tok)), l.map (·.1) = lo → u.map (·.1) = hi → (sliceMade (txt w) t l u none).post (EP X pins σ Q) s := fun l u e1 e2 => by
    unfold sliceMade slicePicked
    rw [e1, e2]
    refine post_val_or_str ?_
    have e := slice_txt w lo hi
    refine ⟨?_, fun t' k => ?_⟩
    · rw [show (if ((Option.map (fun x : Int × Tok => x.1) none).getD 1 == 1 && (strSliceIndices lo hi ((Option.map (fun x : Int × Tok => x.1) none).getD 1) (txt w).length).length == (txt w).length) = true then txt w else ⟨((strSliceIndices lo hi ((Option.map (fun x : Int × Tok => x.1) none).getD 1) (txt w).length).filterMap ((txt w).cps[·]?)).toArray⟩) = txt (cutN w lo hi) from e, txt_len]
      have := cutN_len w lo hi
      omega
    · rw [show (if ((Option.map (fun x : Int × Tok => x.1) none).getD 1 == 1 && (strSliceIndices lo hi ((Option.map (fun x : Int × Tok => x.1) none).getD 1) (txt w).length).length == (txt w).length) = true then txt w else ⟨((strSliceIndices lo hi ((Option.map (fun x : Int × Tok => x.1) none).getD 1) (txt w).length).filterMap ((txt w).cps[·]?)).toArray⟩) = txt (cutN w lo hi) from e]
      exact ⟨.str (txt (cutN w lo hi)), H, I.tok k, ⟨t', rfl⟩, q⟩
  obtain ⟨o, ho, hc, hd⟩ := hs
  cases pl with
  | none =>
    cases pu with
    | none => exact wpAny_getItem_str_slice (l := none) (u := none) (st := none) ⟨o, ho, hc, hd⟩ rfl (fin none none rfl rfl)
    | int j tj => exact wpAny_getItem_str_slice (l := none) (u := some (j, tj)) (st := none) ⟨o, ho, hc, hd⟩ rfl (fin none (some (j, tj)) rfl rfl)
  | int i ti =>
    cases pu with
    | none => exact wpAny_getItem_str_slice (l := some (i, ti)) (u := none) (st := none) ⟨o, ho, hc, hd⟩ rfl (fin (some (i, ti)) none rfl rfl)
    | int j tj => exact wpAny_getItem_str_slice (l := some (i, ti)) (u := some (j, tj)) (st := none) ⟨o, ho, hc, hd⟩ rfl (fin (some (i, ti)) (some (j, tj)) rfl rfl)
end
end L2
set_option Elab.async false
set_option linter.all false
namespace Lin
def str1 : W → List Nat → List W
  | cur, [] => if cur = [] then [] else [cur]
  | cur, c :: r => if c = 32 then (if cur = [] then str1 [] r else cur :: str1 [] r) else str1 (cur ++ [c]) r
def spl : List Nat → List W
  | [] => [[]]
  | c :: r => if c = 32 then [] :: spl r else match spl r with
    | [] => [[c]]
    | p :: ps => (c :: p) :: ps
theorem spl_ne : ∀ t : List Nat, spl t ≠ []
  | [] => by simp [spl]
  | c :: r => by
    unfold spl
    split
    · simp
    · split <;> simp
theorem glue_cons {p : W} {ps : List W} (h : ps ≠ []) : glue (p :: ps) = p ++ 32 :: glue ps := by
  cases ps with
  | nil => exact absurd rfl h
  | cons a r => rfl
theorem spl_glue : ∀ t : List Nat, glue (spl t) = t
  | [] => rfl
  | c :: r => by
    have ih := spl_glue r
    have ne := spl_ne r
    unfold spl
    split
    · rename_i e
      rw [glue_cons ne, ih, e]
      rfl
    · cases h : spl r with
      | nil => exact absurd h ne
      | cons p ps =>
        rw [h] at ih
        show glue ((c :: p) :: ps) = c :: r
        rw [← ih]
        cases ps with
        | nil => rfl
        | cons a b => rfl
theorem spl_free : ∀ t : List Nat, ∀ p ∈ spl t, 32 ∉ p
  | [], p, hp => by
    rw [List.mem_singleton.mp hp]
    simp
  | c :: r, p, hp => by
    have ih := spl_free r
    unfold spl at hp
    split at hp
    · rcases List.mem_cons.mp hp with e | e
      · rw [e]; simp
      · exact ih p e
    · rename_i nc
      cases h : spl r with
      | nil => exact absurd h (spl_ne r)
      | cons q qs =>
        rw [h] at hp ih
        rcases List.mem_cons.mp hp with e | e
        · rw [e]
          intro z
          rcases List.mem_cons.mp z with y | y
          · exact nc y.symm
          · exact ih q List.mem_cons_self y
        · exact ih p (List.mem_cons_of_mem _ e)
theorem str1_free : ∀ (p cur : W), 32 ∉ p → str1 cur p = if cur ++ p = [] then [] else [cur ++ p]
  | [], cur, _ => by
    rw [List.append_nil]
    rfl
  | c :: r, cur, h => by
    have hc : c ≠ 32 := fun z => h (by rw [z]; exact List.mem_cons_self)
    unfold str1
    rw [if_neg hc, str1_free r (cur ++ [c]) (fun z => h (List.mem_cons_of_mem _ z)), List.append_assoc]
    rfl
theorem str1_app : ∀ (p cur r : W), str1 cur (p ++ 32 :: r) = str1 cur p ++ str1 [] r
  | [], cur, r => by
    show str1 cur (32 :: r) = str1 cur [] ++ str1 [] r
    unfold str1
    rw [if_pos rfl]
    split
    · cases r <;> rfl
    · cases r <;> rfl
  | c :: p, cur, r => by
    show str1 cur (c :: (p ++ 32 :: r)) = str1 cur (c :: p) ++ str1 [] r
    by_cases hc : c = 32
    · have e : ∀ t, str1 cur (c :: t) = if cur = [] then str1 [] t else cur :: str1 [] t := fun t => by
        conv => lhs; unfold str1
        rw [if_pos hc]
      rw [e, e, str1_app p [] r]
      split
      · rfl
      · rfl
    · have e : ∀ t, str1 cur (c :: t) = str1 (cur ++ [c]) t := fun t => by
        conv => lhs; unfold str1
        rw [if_neg hc]
      rw [e, e, str1_app p (cur ++ [c]) r]
theorem str1_rows : ∀ rows : List W, str1 [] (glue rows) = (rows.map (str1 [])).flatten
  | [] => rfl
  | [a] => by
    show str1 [] a = str1 [] a ++ []
    rw [List.append_nil]
  | a :: b :: r => by
    show str1 [] (a ++ 32 :: glue (b :: r)) = str1 [] a ++ ((b :: r).map (str1 [])).flatten
    rw [str1_app, str1_rows (b :: r)]
theorem str1_parts : ∀ ps : List W, (∀ p ∈ ps, 32 ∉ p) → str1 [] (glue ps) = ps.filter fun p => decide (p ≠ []) := fun ps h => by
  rw [str1_rows]
  induction ps with
  | nil => rfl
  | cons p ps ih =>
    rw [List.map_cons, List.flatten_cons, ih fun z hz => h z (List.mem_cons_of_mem _ hz), str1_free p [] (h p List.mem_cons_self), List.nil_append, List.filter_cons]
    by_cases e : p = []
    · subst e
      rfl
    · rw [if_neg e, decide_eq_true e]
      rfl
end Lin
set_option Elab.async false
set_option linter.all false
set_option maxRecDepth 100000
namespace L2
open PySem PySem.Spec PyProof.Rows
section
variable {X : Cx}
end
end L2
set_option Elab.async false
set_option linter.all false
set_option maxRecDepth 100000
set_option maxHeartbeats 1000000
namespace L2
open PySem
def GI (mg : Str → Option Value) (x : Str) (n : Int) : Prop := ∃ t, mg x = some (.int n t)
theorem pe_gi {X : Cx} {x : Str} {n : Int} {pos : Pos} (hg : Gl X x) (h : GI X.mg x n) (hd : (x == ("__debug__" : Str)) = false := by decide) : PE X (.Name x pos) (tC (.int n)) := by
  obtain ⟨t, h⟩ := h
  exact pe_glob hg h ⟨t, rfl⟩ hd
theorem pe_cls {X : Cx} {x : Str} {C : Addr} {pos : Pos} (hg : Gl X x) (hm : X.mg x = some (.ref C)) (hd : (x == ("__debug__" : Str)) = false := by decide) : PE X (.Name x pos) (tC (.ref C)) := pe_glob hg hm rfl hd
theorem pe_tyn {X : Cx} {x : Str} {T : String} {pos : Pos} (hg : Gl X x) (hm : X.mg x = none) (hv : bootBuiltins x = some (.type T)) (hn : x ≠ "__name__" := by decide) (hd : (x == ("__debug__" : Str)) = false := by decide) : PE X (.Name x pos) (tC (.ty T)) := pe_bltn hg hm hv rfl hn hd
end L2
namespace KX
open PySem L2 Lin
def top (i : Nat) : Stmt := PySem.Challenge.pw_pagepart_k67_words_read.main.body.getD i (.Pass ⟨0, 0, 0, 0⟩)
abbrev sLw : Stmt := top 22
abbrev sRef : Stmt := top 26
abbrev sLaw : Stmt := top 27
abbrev sStir : Stmt := top 20
abbrev sCell : Stmt := top 21
abbrev sPrn : Stmt := top 16
abbrev sWof : Stmt := top 17
abbrev sWin : Stmt := top 18
abbrev sRows67 : Stmt := top 23
abbrev sLbox : Stmt := top 24
abbrev sLws : Stmt := top 25
structure Callee (P : Program) (w : World) (K : PySem.W.Frag) (mg : Str → Option Value) (base : Heap) (CX : CXT) (k : Nat) (x : Str) (f : Addr) (fd : FuncData) (ps : List Str) (sp : Sp) : Prop where
  ok : FnOk P w K mg base CX k f fd ps sp
  bound : mg x = some (.ref f)
  kp : PySem.W.keepIn K (.ref f) = true
  bd : Binds K fd ps []
theorem at_map {ns : List Int} {k : Int} (h0 : 0 ≤ k) (h1 : k < ns.length) : atI (ns.map V.int) k = some (.int (ns.getD k.toNat 0)) := by
  obtain ⟨j, rfl⟩ := Int.eq_ofNat_of_zero_le h0
  refine atI_nat ?_
  rw [List.getElem?_map, List.getElem?_eq_getElem (by omega)]
  simp [List.getD, show j < ns.length by omega]
theorem same_upd {H H1 : Hp} {l : Addr} {o : HO} (S : Same H H1) (hn : H l = none) : Same H (upd H1 l o) := fun b u e => by
  rw [upd_ne (ne_of_none e hn)]
  exact S b u e
theorem same_new {H : Hp} {p : Addr} {o : HO} (hn : H p = none) : Same H (upd H p o) := fun b u e => by rw [upd_ne (ne_of_none e hn)]; exact e
theorem evl_neg1 {σ : St} {H : Hp} : Evl (tUn (rU fun i => V.int (-i)) (tC (V.int 1))) σ H (.int (-1)) := fun Q q => ⟨1, rfl, q⟩
def tx (ws : List W) : List V := ws.map fun w => V.str (txt w)
theorem tx_len (ws : List W) : (tx ws).length = ws.length := List.length_map _
theorem tx_get {ws : List W} {i : Nat} {w : W} (h : ws[i]? = some w) : (tx ws)[i]? = some (V.str (txt w)) := by
  unfold tx
  rw [List.getElem?_map, h]
  rfl
theorem tx_get' {ws : List W} {i : Nat} {x : V} (h : (tx ws)[i]? = some x) : ∃ w, ws[i]? = some w ∧ x = V.str (txt w) := by
  unfold tx at h
  rw [List.getElem?_map] at h
  cases e : ws[i]? with
  | none => rw [e] at h; cases h
  | some w => rw [e] at h; cases h; exact ⟨w, rfl, rfl⟩
theorem tx_snoc (ws : List W) (w : W) : tx ws ++ [V.str (txt w)] = tx (ws ++ [w]) := by
  unfold tx
  rw [List.map_append]
  rfl
structure Q4 where
  l : Int
  t : Int
  r : Int
  b : Int
def bq (b : Q4) : List V := [.int b.l, .int b.t, .int b.r, .int b.b]
def BxAt (H : Hp) (v : V) (b : Q4) : Prop := ∃ p, v = .ref p ∧ H p = some (.tup (bq b))
theorem BxAt.same {H H' : Hp} (S : Same H H') {v : V} {b : Q4} (h : BxAt H v b) : BxAt H' v b := let ⟨p, e, z⟩ := h; ⟨p, e, S _ _ z⟩
def BxsAt (H : Hp) : List V → List Q4 → Prop := Paired (BxAt H)
theorem BxsAt.same {H H' : Hp} (S : Same H H') : ∀ {vs : List V} {bs : List Q4}, BxsAt H vs bs → BxsAt H' vs bs
  | _, _, .nil => .nil
  | _, _, .cons h t => .cons (h.same S) (BxsAt.same S t)
theorem BxsAt.len {H : Hp} {vs : List V} {bs : List Q4} (h : BxsAt H vs bs) : vs.length = bs.length := Paired.length h
theorem BxsAt.app {H : Hp} : ∀ {vs us : List V} {bs cs : List Q4}, BxsAt H vs bs → BxsAt H us cs → BxsAt H (vs ++ us) (bs ++ cs)
  | _, _, _, _, .nil, s => s
  | _, _, _, _, .cons r t, s => .cons r (BxsAt.app t s)
theorem BxsAt.take {H : Hp} : ∀ {vs : List V} {bs : List Q4} (n : Nat), BxsAt H vs bs → BxsAt H (vs.take n) (bs.take n)
  | _, _, 0, _ => .nil
  | _, _, _ + 1, .nil => .nil
  | _, _, n + 1, .cons r t => .cons r (BxsAt.take n t)
theorem BxsAt.drop {H : Hp} : ∀ {vs : List V} {bs : List Q4} (n : Nat), BxsAt H vs bs → BxsAt H (vs.drop n) (bs.drop n)
  | _, _, 0, r => r
  | _, _, _ + 1, .nil => .nil
  | _, _, n + 1, .cons _ t => BxsAt.drop n t
theorem BxsAt.get {H : Hp} : ∀ {vs : List V} {bs : List Q4} {i : Nat} {v : V}, BxsAt H vs bs → vs[i]? = some v → ∃ b, bs[i]? = some b ∧ BxAt H v b
  | _, _, _, _, .nil, e => by simp at e
  | _, _, 0, _, .cons r _, e => by simp at e; subst e; exact ⟨_, rfl, r⟩
  | _, _, i + 1, v, .cons _ t, e => by
    obtain ⟨p, h1, h2⟩ := BxsAt.get (i := i) (v := v) t (by simpa using e)
    exact ⟨p, by simpa using h1, h2⟩
def spStir : Sp := fun vs H Q _ => ∃ c k : Int, vs = [.int c, .int k] ∧ -1000 ≤ k ∧ k ≤ 1000 ∧ ∀ n : Int, Q (.int n) H
def spCell (K : PySem.W.Frag) : Sp := fun vs H Q _ => ∃ (a : Addr) (ns : List Int) (k : Int), vs = [.ref a, .int k] ∧ SqL K H a (ns.map V.int) ∧ 0 ≤ k ∧ k ≤ 1000 ∧ ∀ n : Int, Q (.int n) H
section
variable {P : Program} {w : World} {K : PySem.W.Frag} {mg : Str → Option Value} {base : Heap}
theorem scStir : FnScope ["cell", "k", "number"] ["cell", "k"] (defScope sStir) := ⟨rfl, rfl, rfl, by decide +kernel, rfl, by decide +kernel, by decide +kernel⟩
theorem ok_stir {f : Addr} {fd : FuncData} (F : Fun K "_law_stir" "_law_stir" sStir f fd) : FnOk P w K mg base CX0 1 f fd ["cell", "k"] spStir := by
  refine F.ok scStir (fun vs H Q E h => ?_) (fun cdv A outer s H vs Q E hr h => ?_)
  · obtain ⟨c, k, rfl, _⟩ := h
    rfl
  · obtain ⟨c, k, rfl, k1, k2, q⟩ := h
    refine ⟨_, pss_cons (ps_set (i := 2) scStir.nd rfl (Or.inl rfl) (pe_op op_mod (pe_op op_mul (pe_op op_add (pe_op op_add (pe_op op_mod (pv 0) pe_int) (pe_op op_mul pe_int (pv 1))) pe_int) pe_int) pe_int))
      (pss_cons (ps_set (i := 2) scStir.nd rfl (Or.inl rfl) (pe_op op_mod (pe_op op_mul (pv 2) (pv 2)) pe_int))
      (pss_one (ps_ret (pe_op op_mod (pe_op op_mul (pv 2) pe_int) pe_int)))), ?_⟩
    have m1 := Int.emod_nonneg c (show (2147483629 : Int) ≠ 0 by decide)
    have m2 := Int.emod_lt_of_pos c (show (0 : Int) < 2147483629 by decide)
    refine ⟨_, rfl, _, _, rfl, rfl, (by show (0 : Int) < 2147483629; decide), _, rfl, _, _, rfl, rfl, .inl ⟨by decide, by decide⟩, _, _, rfl, rfl, _, _, rfl, rfl, _, _, rfl, rfl, .inl ⟨by omega, by omega⟩, _, _, rfl, rfl, (by show (0 : Int) < 2147483647; decide), ?_⟩
    generalize hA : (c % 2147483629 + 7919 * k + 1) * 48271 = a
    have a1 := Int.emod_nonneg a (show (2147483647 : Int) ≠ 0 by decide)
    have a2 := Int.emod_lt_of_pos a (show (0 : Int) < 2147483647 by decide)
    refine ⟨_, rfl, _, rfl, _, _, rfl, rfl, .inl ⟨by omega, by omega⟩, _, _, rfl, rfl, (by show (0 : Int) < 2147483629; decide), ?_⟩
    generalize a % 2147483647 * (a % 2147483647) = b
    have b1 := Int.emod_nonneg b (show (2147483629 : Int) ≠ 0 by decide)
    have b2 := Int.emod_lt_of_pos b (show (0 : Int) < 2147483629 by decide)
    exact ⟨_, rfl, _, _, rfl, rfl, .inl ⟨by omega, by omega⟩, _, _, rfl, rfl, (by show (0 : Int) < 2147483563; decide), q _⟩
theorem scCell : FnScope ["script", "k"] ["script", "k"] (defScope sCell) := ⟨rfl, rfl, rfl, by decide +kernel, rfl, by decide +kernel, by decide +kernel⟩
theorem ok_cell {f fS : Addr} {fd fdS : FuncData} (F : Fun K "_law_cell" "_law_cell" sCell f fd) (tl : mg "len" = none) (S : Callee P w K mg base CX0 1 "_law_stir" fS fdS ["cell", "k"] spStir) : FnOk P w K mg base CX0 2 f fd ["script", "k"] (spCell K) := by
  refine F.ok scCell (fun vs H Q E h => ?_) (fun cdv A outer s H vs Q E hr h => ?_)
  · obtain ⟨a, ns, k, rfl, _⟩ := h
    rfl
  · obtain ⟨a, ns, k, rfl, hS, k1, k2, q⟩ := h
    refine ⟨_, pss_cons (ps_if (pt_cmpR op_lt (pv 1) (pe_callB call_len_seq (by rfl) tl PySem.boot_len (pa_cons (pv 0) pa_nil)) (nomark _)) (pss_one (ps_ret (pe_ix ix_list (pv 0) (pv 1) (fun _ _ => rfl)))) pss_nil)
      (pss_cons (ps_if (pt_cmpR op_eq (pe_callB call_len_seq (by rfl) tl PySem.boot_len (pa_cons (pv 0) pa_nil)) pe_int (nomark _))
        (pss_one (ps_ret (pe_call S.ok hr rfl S.bound S.kp S.bd .nil pass0 (pa_cons (pe_op op_mul (pv 1) (pv 1)) (pa_cons (pv 1) pa_nil))))) pss_nil)
      (pss_one (ps_ret (pe_call S.ok hr rfl S.bound S.kp S.bd .nil pass0 (pa_cons (pe_ix ix_list (pv 0) (pe_op op_mod (pv 1) (pe_callB call_len_seq (by rfl) tl PySem.boot_len (pa_cons (pv 0) pa_nil))) (fun _ _ => rfl)) (pa_cons (pv 1) pa_nil)))))), ?_⟩
    refine ⟨_, rfl, _, rfl, _, _, rfl, .inl hS, _, _, rfl, rfl, _, rfl, ?_⟩
    rw [List.length_map]
    refine ite2 (fun c1 => ?_) (fun c1 => ?_)
    · have c1 := of_decide_eq_true c1
      exact ⟨_, rfl, _, rfl, _, _, _, _, rfl, rfl, hS, at_map k1 c1, q _⟩
    · have c1 : ¬ k < (ns.length : Int) := fun z => c1 (decide_eq_true z)
      refine ⟨_, rfl, _, _, rfl, .inl hS, rfl, _, rfl, ?_⟩
      rw [List.length_map]
      refine ite2 (fun c2 => ?_) (fun c2 => ?_)
      · exact ⟨_, rfl, _, rfl, _, _, rfl, rfl, .inl ⟨by omega, by omega⟩, _, rfl, _, _, rfl, by omega, by omega, fun n => q n⟩
      · have c2 : ns.length ≠ 0 := fun z => c2 (decide_eq_true (by rw [z]; rfl))
        have hp : (0 : Int) < (ns.length : Int) := by omega
        have m1 := Int.emod_nonneg k (show (ns.length : Int) ≠ 0 by omega)
        have m2 := Int.emod_lt_of_pos k hp
        exact ⟨_, rfl, _, rfl, _, rfl, _, _, rfl, .inl hS, _, _, rfl, rfl, (by rw [List.length_map]; exact hp), _, _, _, _, rfl, rfl, hS, (by rw [List.length_map]; exact at_map m1 m2), _, rfl, _, _, rfl, by omega, by omega, fun n => q n⟩
end
end KX
set_option Elab.async false
set_option linter.all false
set_option maxRecDepth 100000
set_option maxHeartbeats 1000000
namespace KX
open PySem L2 Lin
def Grid (rows : List W) (wide high : Nat) : Prop := rows.length = high ∧ (∀ r ∈ rows, r.length = wide) ∧ 1 ≤ wide ∧ wide ≤ 30 ∧ high ≤ 12
def prn (b : Q4) (wide high : Nat) : Bool := decide (0 ≤ b.l ∧ 0 ≤ b.t ∧ b.b ≤ (high : Int) ∧ b.r ≤ (wide : Int))
def cut1 (b : Q4) (r : W) : W := (r.drop b.l.toNat).take (b.r.toNat - b.l.toNat)
def cutB (rows : List W) (b : Q4) : List W := (rows.drop b.t.toNat).take (b.b.toNat - b.t.toNat)
def wds (rows : List W) (b : Q4) : List W := ((cutB rows b).map fun r => str1 [] (cut1 b r)).flatten
theorem six {n d : Nat} {i : Int} (h0 : 0 ≤ i) (h1 : i ≤ n) : HT.sIx n d (some i) = i.toNat := by
  obtain ⟨j, rfl⟩ := Int.eq_ofNat_of_zero_le h0
  rw [HT.sIx_nat]
  omega
theorem cutV_rows {rows : List W} {b : Q4} (h0 : 0 ≤ b.t) (h1 : b.t ≤ b.b) (h2 : b.b ≤ (rows.length : Int)) : cutV (tx rows) (some b.t) (some b.b) = tx (cutB rows b) := by
  unfold cutV cutB tx
  rw [List.length_map, six h0 (by omega), six (by omega) h2, List.map_take, List.map_drop]
theorem cutN_row {r : W} {b : Q4} (h0 : 0 ≤ b.l) (h1 : b.l ≤ b.r) (h2 : b.r ≤ (r.length : Int)) : cutN r (some b.l) (some b.r) = cut1 b r := by
  unfold cutN cut1
  rw [six h0 (by omega), six (by omega) h2]
theorem cutB_mem {rows : List W} {b : Q4} {r : W} (h : r ∈ cutB rows b) : r ∈ rows := List.mem_of_mem_drop (List.mem_of_mem_take h)
theorem cutB_len (rows : List W) (b : Q4) : (cutB rows b).length ≤ rows.length := by
  unfold cutB
  rw [List.length_take, List.length_drop]
  omega
theorem cut1_len (r : W) (b : Q4) : (cut1 b r).length ≤ r.length := by
  unfold cut1
  rw [List.length_take, List.length_drop]
  omega
theorem cutB_ne {rows : List W} {b : Q4} (h0 : 0 ≤ b.t) (h1 : b.t < b.b) (h2 : b.b ≤ (rows.length : Int)) : cutB rows b ≠ [] := fun z => by
  have := congrArg List.length z
  unfold cutB at this
  rw [List.length_take, List.length_drop] at this
  simp at this
  omega
theorem sum_len {B : Nat} : ∀ {ls : List W}, (∀ l ∈ ls, l.length ≤ B) → (ls.map List.length).sum ≤ B * ls.length
  | [], _ => Nat.le_refl _
  | a :: r, h => by
    have := sum_len (B := B) (ls := r) fun l hl => h l (List.mem_cons_of_mem _ hl)
    have := h a List.mem_cons_self
    rw [List.map_cons, List.sum_cons, List.length_cons, Nat.mul_add]
    omega
theorem glue_len : ∀ ls : List W, (glue ls).length ≤ (ls.map List.length).sum + ls.length
  | [] => Nat.zero_le _
  | [a] => by
    show a.length ≤ a.length + 0 + 1
    omega
  | a :: b :: r => by
    have := glue_len (b :: r)
    show (a ++ 32 :: glue (b :: r)).length ≤ (a.length + ((b :: r).map List.length).sum) + ((b :: r).length + 1)
    rw [List.length_append, List.length_cons]
    omega
theorem spl_len : ∀ t : List Nat, (spl t).length ≤ t.length + 1
  | [] => Nat.le_refl _
  | c :: r => by
    have ih := spl_len r
    unfold spl
    split
    · rw [List.length_cons, List.length_cons]
      omega
    · split
      · rw [List.length_cons, List.length_cons]
        show 0 + 1 ≤ _
        omega
      · rename_i p ps e
        rw [e] at ih
        rw [List.length_cons, List.length_cons] at *
        omega
theorem wds_eq (rows : List W) (b : Q4) : (spl (glue ((cutB rows b).map (cut1 b)))).filter (fun p => decide (p ≠ [])) = wds rows b := by
  rw [← str1_parts _ (spl_free _), spl_glue, str1_rows, List.map_map]
  rfl
theorem ne_empty (v : W) : (!decide (V.str (txt v) = V.str "")) = decide (v ≠ []) := by
  have e : ("" : Str) = txt [] := by decide +kernel
  rw [e]
  by_cases c : v = []
  · subst c
    simp
  · rw [decide_eq_true c, decide_eq_false fun z => c (txt_inj (V.str.inj z))]
    rfl
structure Nm (K : PySem.W.Frag) (mg : Str → Option Value) : Prop where
  gLEFT : GI mg "LEFT" 0
  gTOP : GI mg "TOP" 1
  gRIGHT : GI mg "RIGHT" 2
  gBELOW : GI mg "BELOW" 3
  tl : mg "len" = none
  tall : mg "all" = none
def spPrn : Sp := fun vs H Q _ => ∃ (a p : Addr) (rows : List W) (wide high : Nat) (b : Q4), vs = [.ref a, .ref p] ∧ H a = some (.lst (tx rows)) ∧ Grid rows wide high ∧ H p = some (.tup (bq b)) ∧ b.t < b.b ∧ ∀ H', Same H H' → Q (.bl (prn b wide high)) H'
def spWof : Sp := fun vs H Q _ => ∃ (a p : Addr) (rows : List W) (wide high : Nat) (b : Q4), vs = [.ref a, .ref p] ∧ H a = some (.lst (tx rows)) ∧ Grid rows wide high ∧ H p = some (.tup (bq b)) ∧ b.t < b.b ∧ b.l < b.r ∧ prn b wide high = true ∧ ∀ (l : Addr) (H' : Hp), Same H H' → H l = none → H' l = some (.lst (tx (wds rows b))) → Q (.ref l) H'
section
variable {P : Program} {w : World} {K : PySem.W.Frag} {mg : Str → Option Value} {base : Heap}
theorem scPrn : FnScope ["rows", "box"] ["rows", "box"] (defScope sPrn) := ⟨rfl, rfl, rfl, by decide +kernel, rfl, by decide +kernel, by decide +kernel⟩
theorem ok_prn {f : Addr} {fd : FuncData} (F : Fun K "is_printed" "is_printed" sPrn f fd) (Z : Nm K mg) : FnOk P w K mg base CX0 1 f fd ["rows", "box"] spPrn := by
  obtain ⟨gLEFT, gTOP, gRIGHT, gBELOW, tl, tall⟩ := Z
  refine F.ok scPrn (fun vs H Q E h => ?_) (fun cdv A outer s H vs Q E hr h => ?_)
  · obtain ⟨a, p, rows, wide, high, b, rfl, _⟩ := h
    rfl
  · obtain ⟨a, p, rows, wide, high, b, rfl, ha, ⟨g1, g2, g3, g4, g5⟩, hp, tb, q⟩ := h
    refine ⟨_, (pss_cons (ps_if (PW.pt (pw_or (pt_cmpR op_lt (pe_ix ix_tup (pv 1) (pe_gi rfl gLEFT) (fun _ _ => rfl)) pe_int (nomark _)) (pw_or (pt_cmpR op_lt (pe_ix ix_tup (pv 1) (pe_gi rfl gTOP) (fun _ _ => rfl)) pe_int (nomark _)) (pw_or1 (pt_cmpR op_gt (pe_ix ix_tup (pv 1) (pe_gi rfl gBELOW) (fun _ _ => rfl)) (pe_callB call_len_seq (by rfl) tl PySem.boot_len (pa_cons (pv 0) pa_nil)) (nomark _))))))
      (pss_one (ps_ret pe_bl))
      pss_nil)
      (pss_one (ps_ret (pe_callB (call_allL rfl) (by rfl) tall PyProof.Rows.boot_all (pa_cons (pe_comp (Nc := ["row", "box"]) (ix := [none, some 1]) rfl rfl (by refine' pi_list ?zz; case zz => exact (pe_slice sl_list (pv 0) (po_some (pe_ix ix_tup (pv 1) (pe_gi rfl gTOP) (fun _ _ => rfl))) (po_some (pe_ix ix_tup (pv 1) (pe_gi rfl gBELOW) (fun _ _ => rfl))))) (fun _ _ _ _ _ => (pg_name (i := 0) (by show (["row", "box"] : List Str).Nodup; decide +kernel) rfl (Or.inl rfl))) (fun _ _ _ _ _ => pts_nil) (fun _ _ _ _ _ => (pe_cmpR op_le (pe_ix (ix_tupK (K := K) rfl) (pv 1) (pe_gi rfl gRIGHT) (fun _ _ => rfl)) (pe_callB call_len_str (by rfl) tl PySem.boot_len (pa_cons (pv 0) pa_nil)) (nomark _)))) pa_nil))))), ?_⟩
    refine seq_if (p := b.l < 0 ∨ (b.t < 0 ∨ (rows.length : Int) < b.b)) (tst_or (tst_of (evl_I0 (evl_ixT (evl_var rfl) evl_c (SqT.of hp) rfl) evl_c)) (tst_or (tst_of (evl_I0 (evl_ixT (evl_var rfl) evl_c (SqT.of hp) rfl) evl_c)) (tst_of (by rw [← tx_len rows]; exact (evl_I0 (evl_ixT (evl_var rfl) evl_c (SqT.of hp) rfl) (evl_lenL (evl_var rfl) (SqL.of ha))))))) (fun c => ?_) (fun c => ?_)
    · have e : prn b wide high = false := decide_eq_false (by omega)
      rw [← e]
      exact q H (Same.refl _)
    · refine run_next ?_
      dsimp only
      have c1 : 0 ≤ b.l ∧ 0 ≤ b.t ∧ b.b ≤ (rows.length : Int) := by omega
      refine ⟨_, rfl, _, rfl, _, _, _, _, rfl, rfl, SqT.of hp, rfl, _, rfl, _, rfl, _, _, _, _, rfl, rfl, SqT.of hp, rfl, _, rfl, a, _, rfl, SqL.of ha, fun pc nc => ?_⟩
      rw [cutV_rows c1.2.1 (by omega) c1.2.2]
      have S1 := same_new (o := .lst (tx (cutB rows b))) nc
      have hpc : (upd H pc (.lst (tx (cutB rows b)))) pc = some (.lst (tx (cutB rows b))) := upd_same
      have hp1 := S1 _ _ hp
      generalize upd H pc (.lst (tx (cutB rows b))) = H1 at S1 hpc hp1
      have ln := cutB_len rows b
      refine ⟨pc, rfl, ⟨_, SqL.of hpc⟩, cmp_list (K := K) (a := pc) (xs := tx (cutB rows b)) (fun i ys σ H' => ys = (List.replicate i (decide (b.r ≤ (wide : Int)))).map V.bl ∧ H' = H1 ∧ ∃ o, σ = [o, some (.ref p)]) ⟨rfl, rfl, none, rfl⟩
        (fun i ys σ H' hi ⟨e, e2, _⟩ => ⟨by rw [e, List.length_map, List.length_replicate]; rw [tx_len] at hi; exact Nat.le_trans (show i ≤ 1000 by omega) (by decide), by rw [e2]; exact SqL.of hpc⟩) ?_ ?_⟩
      case refine_2 =>
        rintro i x ys σ H' hx ⟨rfl, rfl, o, rfl⟩
        obtain ⟨v, hv, rfl⟩ := tx_get' hx
        have lv := g2 v (cutB_mem (List.mem_of_getElem? hv))
        dsimp only [gName, tYes]
        refine iteT ?_
        refine ⟨_, rfl, _, _, _, _, rfl, rfl, SqT.of hp1, rfl, _, rfl, _, rfl, ?_, _, _, rfl, rfl, ?_, rfl, _, rfl⟩
        · rw [txt_len, lv]
          exact Nat.le_trans g4 (by decide)
        · rw [txt_len, lv, List.replicate_succ', List.map_append]
          rfl
      rintro ys σ H' ⟨rfl, rfl, _⟩ pl npl
      rw [tx_len]
      refine ⟨pl, List.replicate (cutB rows b).length (decide (b.r ≤ (wide : Int))), rfl, SqL.of upd_same, ?_⟩
      have e : ((List.replicate (cutB rows b).length (decide (b.r ≤ (wide : Int)))).all id) = prn b wide high := by
        have ne := cutB_ne c1.2.1 tb c1.2.2
        have : 0 < (cutB rows b).length := List.length_pos_iff.mpr ne
        unfold prn
        by_cases c : b.r ≤ (wide : Int)
        · rw [decide_eq_true c, decide_eq_true (by omega), List.all_eq_true]
          intro x hx
          exact List.eq_of_mem_replicate hx
        · rw [decide_eq_false c, decide_eq_false (by omega)]
          obtain ⟨k, e⟩ : ∃ k, (cutB rows b).length = k + 1 := ⟨_, (Nat.succ_pred_eq_of_pos this).symm⟩
          rw [e, List.replicate_succ]
          rfl
      rw [e]
      exact q _ (S1.trans (same_new npl))
theorem scWof : FnScope ["rows", "box", "signs"] ["rows", "box"] (defScope sWof) := ⟨rfl, rfl, rfl, by decide +kernel, rfl, by decide +kernel, by decide +kernel⟩
theorem ok_wof {f : Addr} {fd : FuncData} (F : Fun K "words_of" "words_of" sWof f fd) (Z : Nm K mg) : FnOk P w K mg base CX0 1 f fd ["rows", "box"] spWof := by
  obtain ⟨gLEFT, gTOP, gRIGHT, gBELOW, tl, tall⟩ := Z
  refine F.ok scWof (fun vs H Q E h => ?_) (fun cdv A outer s H vs Q E hr h => ?_)
  · obtain ⟨a, p, rows, wide, high, b, rfl, _⟩ := h
    rfl
  · obtain ⟨a, p, rows, wide, high, b, rfl, ha, ⟨g1, g2, g3, g4, g5⟩, hp, tb, lr, pr, q⟩ := h
    refine ⟨_, (pss_cons (ps_set (i := 2) scWof.nd rfl (Or.inl rfl) (pe_bm PySem.F.plainAttrs_str PySem.F.slot_str_join PySem.F.type_str_join mt_joinB pe_str (by exact (pa_cons (pe_comp (Nc := ["row", "box"]) (ix := [none, some 1]) rfl rfl (by refine' pi_list ?zz; case zz => exact (pe_slice sl_list (pv 0) (po_some (pe_ix ix_tup (pv 1) (pe_gi rfl gTOP) (fun _ _ => rfl))) (po_some (pe_ix ix_tup (pv 1) (pe_gi rfl gBELOW) (fun _ _ => rfl))))) (fun _ _ _ _ _ => (pg_name (i := 0) (by show (["row", "box"] : List Str).Nodup; decide +kernel) rfl (Or.inl rfl))) (fun _ _ _ _ _ => pts_nil) (fun _ _ _ _ _ => (pe_slice sl_str (pv 0) (po_some (pe_ix (ix_tupK (K := K) rfl) (pv 1) (pe_gi rfl gLEFT) (fun _ _ => rfl))) (po_some (pe_ix (ix_tupK (K := K) rfl) (pv 1) (pe_gi rfl gRIGHT) (fun _ _ => rfl)))))) pa_nil))))
      (pss_one (ps_ret (pe_comp (Nc := ["word"]) (ix := [none]) rfl rfl (by refine' pi_list ?zz; case zz => exact (pe_bm PySem.F.plainAttrs_str PySem.F.slot_str_split PySem.F.type_str_split mt_splitG (pv 2) (by exact (pa_cons pe_str pa_nil)))) (fun _ _ _ _ _ => (pg_name (i := 0) (by show (["word"] : List Str).Nodup; decide +kernel) rfl (Or.inl rfl))) (fun _ _ _ _ _ => (pts_one (pt_cmpR op_ne (pv 0) pe_str (nomark _)))) (fun _ _ _ _ _ => (pv 0)))))), ?_⟩
    have c1 := of_decide_eq_true pr
    refine ⟨rfl, _, rfl, _, rfl, _, _, _, _, rfl, rfl, SqT.of hp, rfl, _, rfl, _, rfl, _, _, _, _, rfl, rfl, SqT.of hp, rfl, _, rfl, a, _, rfl, SqL.of ha, fun pc nc => ?_⟩
    rw [cutV_rows c1.2.1 (by omega) (by omega)]
    have S1 := same_new (o := .lst (tx (cutB rows b))) nc
    have hpc : (upd H pc (.lst (tx (cutB rows b)))) pc = some (.lst (tx (cutB rows b))) := upd_same
    have hp1 := S1 _ _ hp
    generalize upd H pc (.lst (tx (cutB rows b))) = H1 at S1 hpc hp1
    have ln := cutB_len rows b
    refine ⟨pc, rfl, ⟨_, SqL.of hpc⟩, cmp_list (K := K) (a := pc) (xs := tx (cutB rows b)) (fun i ys σ H' => ys = tx (((cutB rows b).take i).map (cut1 b)) ∧ H' = H1 ∧ ∃ o, σ = [o, some (.ref p)]) ⟨rfl, rfl, none, rfl⟩
      (fun i ys σ H' hi ⟨e, e2, _⟩ => ⟨by rw [e, tx_len, List.length_map, List.length_take]; exact Nat.le_trans (show _ ≤ 1000 by omega) (by decide), by rw [e2]; exact SqL.of hpc⟩) ?_ ?_⟩
    case refine_2 =>
      rintro i x ys σ H' hx ⟨rfl, rfl, o, rfl⟩
      obtain ⟨v, hv, rfl⟩ := tx_get' hx
      obtain ⟨hil, ev⟩ := List.getElem?_eq_some_iff.mp hv
      have lv := g2 v (cutB_mem (List.mem_of_getElem? hv))
      dsimp only [gName, tYes]
      refine iteT ?_
      refine ⟨_, rfl, _, rfl, _, _, _, _, rfl, rfl, SqT.of hp1, rfl, _, rfl, _, rfl, _, _, _, _, rfl, rfl, SqT.of hp1, rfl, _, rfl, v, rfl, by omega, ?_, rfl, _, rfl⟩
      rw [cutN_row c1.1 (by omega) (by omega), tx_snoc, ← List.take_append_getElem hil, ev, List.map_append]
      rfl
    rintro ys σ H' ⟨rfl, rfl, _⟩ pl npl
    rw [tx_len, List.take_length]
    have S2 := S1.trans (same_new (o := .lst (tx ((cutB rows b).map (cut1 b)))) npl)
    have hpl : (upd H' pl (.lst (tx ((cutB rows b).map (cut1 b))))) pl = some (.lst (tx ((cutB rows b).map (cut1 b)))) := upd_same
    generalize upd H' pl (.lst (tx ((cutB rows b).map (cut1 b)))) = H2 at S2 hpl
    have sm : (((cutB rows b).map (cut1 b)).map List.length).sum + ((cutB rows b).map (cut1 b)).length ≤ 1000 := by
      have := sum_len (B := 30) (ls := (cutB rows b).map (cut1 b)) fun l hl => by
        obtain ⟨r, hr, rfl⟩ := List.mem_map.mp hl
        have := cut1_len r b
        have := g2 r (cutB_mem hr)
        omega
      rw [List.length_map] at this ⊢
      omega
    refine ⟨pl, _, rfl, rfl, SqL.of hpl, by omega, ?_⟩
    have gl := glue_len ((cutB rows b).map (cut1 b))
    have we := wds_eq rows b
    generalize glue ((cutB rows b).map (cut1 b)) = g at gl we ⊢
    have sl := spl_len g
    refine ⟨_, rfl, rfl, spl g, by rw [spl_glue], rfl, spl_ne g, spl_free g, by rw [spl_glue]; omega, by omega, fun ps nps => ?_⟩
    have S3 := S2.trans (same_new (o := .lst (tx (spl g))) nps)
    have hps : (upd H2 ps (.lst (tx (spl g)))) ps = some (.lst (tx (spl g))) := upd_same
    have e2 : (upd H2 ps (.lst ((spl g).map fun w => V.str (txt w)))) = upd H2 ps (.lst (tx (spl g))) := rfl
    rw [e2]
    generalize upd H2 ps (.lst (tx (spl g))) = H3 at S3 hps
    refine ⟨ps, rfl, ⟨_, SqL.of hps⟩, cmp_list (K := K) (a := ps) (xs := tx (spl g)) (fun i ys σ H' => ys = tx (((spl g).take i).filter fun p => decide (p ≠ [])) ∧ H' = H3 ∧ ∃ o, σ = [o]) ⟨rfl, rfl, none, rfl⟩
      (fun i ys σ H' hi ⟨e, e2, _⟩ => ⟨by rw [e, tx_len]; exact Nat.le_trans (Nat.le_trans (List.length_filter_le _ _) (by rw [List.length_take]; show _ ≤ 2000; omega)) (by decide), by rw [e2]; exact SqL.of hps⟩) ?_ ?_⟩
    case refine_2 =>
      rintro i x ys σ H' hx ⟨rfl, rfl, o, rfl⟩
      obtain ⟨v, hv, rfl⟩ := tx_get' hx
      obtain ⟨hil, ev⟩ := List.getElem?_eq_some_iff.mp hv
      dsimp only [gName]
      refine ⟨_, rfl, rfl, _, rfl, ?_⟩
      rw [ne_empty, ← List.take_append_getElem hil, ev, List.filter_append]
      by_cases c : v ≠ []
      · rw [decide_eq_true c]
        refine iteT ⟨_, rfl, ?_, rfl, _, rfl⟩
        rw [tx_snoc, List.filter_cons, decide_eq_true c]
        rfl
      · rw [decide_eq_false c]
        refine iteF ⟨?_, rfl, _, rfl⟩
        rw [List.filter_cons, decide_eq_false c]
        show _ = tx (_ ++ [])
        rw [List.append_nil]
    rintro ys σ H' ⟨rfl, rfl, _⟩ p5 n5
    rw [tx_len, List.take_length, we]
    exact q p5 _ (S3.trans (same_new n5)) (S3.free n5) upd_same
end
end KX
set_option Elab.async false
set_option linter.all false
set_option maxRecDepth 100000
set_option maxHeartbeats 1000000
namespace KX
open PySem L2 Lin
def Wl (H0 H : Hp) (v : V) (ws : List W) : Prop := ∃ p, v = .ref p ∧ H0 p = none ∧ H p = some (.lst (tx ws))
def Wls (H0 H : Hp) : List V → List (List W) → Prop := Paired (Wl H0 H)
theorem Wl.same {H0 H H' : Hp} (S : Same H H') {v : V} {ws : List W} (h : Wl H0 H v ws) : Wl H0 H' v ws := let ⟨p, e, n, z⟩ := h; ⟨p, e, n, S _ _ z⟩
theorem Wls.same {H0 H H' : Hp} (S : Same H H') : ∀ {vs : List V} {bs : List (List W)}, Wls H0 H vs bs → Wls H0 H' vs bs
  | _, _, .nil => .nil
  | _, _, .cons h t => .cons (h.same S) (Wls.same S t)
theorem Wls.len {H0 H : Hp} {vs : List V} {bs : List (List W)} (h : Wls H0 H vs bs) : vs.length = bs.length := Paired.length h
theorem Wls.app {H0 H : Hp} : ∀ {vs us : List V} {bs cs : List (List W)}, Wls H0 H vs bs → Wls H0 H us cs → Wls H0 H (vs ++ us) (bs ++ cs)
  | _, _, _, _, .nil, s => s
  | _, _, _, _, .cons r t, s => .cons r (Wls.app t s)
theorem Wls.get {H0 H : Hp} : ∀ {vs : List V} {bs : List (List W)} {i : Nat} {v : V}, Wls H0 H vs bs → vs[i]? = some v → ∃ b, bs[i]? = some b ∧ Wl H0 H v b
  | _, _, _, _, .nil, e => by simp at e
  | _, _, 0, _, .cons r _, e => by simp at e; subst e; exact ⟨_, rfl, r⟩
  | _, _, i + 1, v, .cons _ t, e => by
    obtain ⟨p, h1, h2⟩ := Wls.get (i := i) (v := v) t (by simpa using e)
    exact ⟨p, by simpa using h1, h2⟩
theorem Wls.notin {H0 H : Hp} {l : Addr} (hl : H l = none) : ∀ {vs : List V} {bs : List (List W)}, Wls H0 H vs bs → V.ref l ∉ vs
  | _, _, .nil, z => by simp at z
  | _, _, .cons ⟨p, e, _, hp⟩ t, z => by
    rcases List.mem_cons.mp z with y | y
    · rw [e] at y
      cases y
      rw [hl] at hp
      cases hp
    · exact Wls.notin hl t y
def spWin (C : Addr) : Sp := fun vs H Q E => ∃ (a p : Addr) (rows : List W) (wide high : Nat) (bvs : List V) (bs : List Q4), vs = [.ref a, .ref p] ∧ H a = some (.lst (tx rows)) ∧ Grid rows wide high ∧ H p = some (.lst bvs) ∧ BxsAt H bvs bs ∧ (∀ b ∈ bs, b.t < b.b) ∧ bs.length ≤ 1000 ∧
  (((∀ b ∈ bs, b.l < b.r ∧ prn b wide high = true) ∧ ∀ (l : Addr) (us : List V) (H' : Hp), Same H H' → H l = none → H' l = some (.lst us) → Wls H H' us (bs.map (wds rows)) → us.Nodup → V.ref l ∉ us → Q (.ref l) H') ∨
   ((∃ b ∈ bs, prn b wide high = false) ∧ ∀ H', Same H H' → E (.ref C) none H'))
section
variable {P : Program} {w : World} {K : PySem.W.Frag} {mg : Str → Option Value} {base : Heap}
theorem scWin : FnScope ["rows", "boxes"] ["rows", "boxes"] (defScope sWin) := ⟨rfl, rfl, rfl, by decide +kernel, rfl, by decide +kernel, by decide +kernel⟩
theorem ok_win {f fP fW C : Addr} {fd dP dW : FuncData} (F : Fun K "words_in" "words_in" sWin f fd) (Z : Nm K mg) (ex : Exc K mg "NoPlace" C) (Pr : Callee P w K mg base CX0 1 "is_printed" fP dP ["rows", "box"] spPrn) (Wf : Callee P w K mg base CX0 1 "words_of" fW dW ["rows", "box"] spWof) :
    FnOk P w K mg base (CXE P w) 3 f fd ["rows", "boxes"] (spWin C) := by
  obtain ⟨gLEFT, gTOP, gRIGHT, gBELOW, tl, tall⟩ := Z
  refine F.okE scWin (fun vs H Q E h => ?_) (fun cdv A outer s H vs Q E hr hh h => ?_)
  · obtain ⟨a, p, rows, wide, high, bvs, bs, rfl, _⟩ := h
    rfl
  · obtain ⟨a, p, rows, wide, high, bvs, bs, rfl, ha, hG, hp, hB, htb, hn, h⟩ := h
    have hl := hB.len
    refine ⟨_, (pss_cons (ps_if (pt_not (pt_val (pe_callB (call_allL rfl) (by rfl) tall PyProof.Rows.boot_all (pa_cons (pe_comp (Nc := ["box", "rows"]) (ix := [none, some 0]) rfl rfl (by refine' pi_list ?zz; case zz => exact (pv 1)) (fun _ _ _ _ _ => (pg_name (i := 0) (by show (["box", "rows"] : List Str).Nodup; decide +kernel) rfl (Or.inl rfl))) (fun _ _ _ _ _ => pts_nil) (fun _ _ _ _ _ => (pe_call Pr.ok (hr.mono (show 1 ≤ 2 by decide)) rfl Pr.bound Pr.kp Pr.bd .nil pass0 (pa_cons (pv 1) (pa_cons (pv 0) pa_nil))))) pa_nil))))
      (pss_one (ps_raise ex hh rfl (pa_cons pe_str pa_nil)))
      pss_nil)
      (pss_one (ps_ret (pe_comp (Nc := ["box", "rows"]) (ix := [none, some 0]) rfl rfl (by refine' pi_list ?zz; case zz => exact (pv 1)) (fun _ _ _ _ _ => (pg_name (i := 0) (by show (["box", "rows"] : List Str).Nodup; decide +kernel) rfl (Or.inl rfl))) (fun _ _ _ _ _ => pts_nil) (fun _ _ _ _ _ => (pe_call Wf.ok (hr.mono (show 1 ≤ 2 by decide)) rfl Wf.bound Wf.kp Wf.bd .nil pass0 (pa_cons (pv 1) (pa_cons (pv 0) pa_nil)))))))), ?_⟩
    refine ⟨_, rfl, p, rfl, ⟨_, SqL.of hp⟩, cmp_list (K := K) (a := p) (xs := bvs) (fun i ys σ H' => ys = (((bs.take i).map fun b => prn b wide high)).map V.bl ∧ Same H H' ∧ ∃ o, σ = [o, some (.ref a)]) ⟨rfl, Same.refl _, none, rfl⟩
      (fun i ys σ H' hi ⟨e, S, _⟩ => ⟨by rw [e, List.length_map, List.length_map, List.length_take]; exact Nat.le_trans (show _ ≤ 1000 by omega) (by decide), SqL.of (S _ _ hp)⟩) ?_ ?_⟩
    case refine_2 =>
      rintro i x ys σ H' hx ⟨rfl, S, o, rfl⟩
      obtain ⟨b, hb, q, rfl, hq⟩ := hB.get hx
      obtain ⟨hil, ev⟩ := List.getElem?_eq_some_iff.mp hb
      dsimp only [gName, tYes]
      refine iteT ?_
      refine ⟨_, rfl, _, rfl, a, q, rows, wide, high, b, rfl, S _ _ ha, hG, S _ _ hq, htb b (List.mem_of_getElem? hb), fun H2 S2 => ⟨?_, S.trans S2, _, rfl⟩⟩
      rw [← List.take_append_getElem hil, ev, List.map_append, List.map_append]
      rfl
    rintro ys σ H1 ⟨rfl, S1, _⟩ pl npl
    rw [hl, List.take_length]
    have S2 := S1.trans (same_new (o := .lst ((bs.map fun b => prn b wide high).map V.bl)) npl)
    have hpl : (upd H1 pl (.lst ((bs.map fun b => prn b wide high).map V.bl))) pl = some (.lst ((bs.map fun b => prn b wide high).map V.bl)) := upd_same
    generalize upd H1 pl (.lst ((bs.map fun b => prn b wide high).map V.bl)) = H2 at S2 hpl
    refine ⟨pl, _, rfl, SqL.of hpl, _, rfl, ?_⟩
    rcases h with ⟨hok, q⟩ | ⟨⟨b, hb, hno⟩, qe⟩
    · have e : (bs.map fun b => prn b wide high).all id = true := by
        rw [List.all_eq_true]
        intro x hx
        obtain ⟨b, hb, rfl⟩ := List.mem_map.mp hx
        exact (hok b hb).2
      rw [e]
      refine iteF ?_
      refine run_next ?_
      dsimp only
      refine ⟨_, rfl, p, rfl, ⟨_, SqL.of (S2 _ _ hp)⟩, cmp_list (K := K) (a := p) (xs := bvs) (fun i ys σ H' => Wls H H' ys ((bs.take i).map (wds rows)) ∧ ys.Nodup ∧ Same H H' ∧ ∃ o, σ = [o, some (.ref a)]) ⟨.nil, .nil, S2, none, rfl⟩
        (fun i ys σ H' hi ⟨e, _, S, _⟩ => ⟨by rw [e.len, List.length_map, List.length_take]; exact Nat.le_trans (show _ ≤ 1000 by omega) (by decide), SqL.of (S _ _ hp)⟩) ?_ ?_⟩
      case refine_2 =>
        rintro i x ys σ H' hx ⟨hw, nd, S, o, rfl⟩
        obtain ⟨b, hb, r, rfl, hr⟩ := hB.get hx
        obtain ⟨hil, ev⟩ := List.getElem?_eq_some_iff.mp hb
        obtain ⟨b1, b2⟩ := hok b (List.mem_of_getElem? hb)
        dsimp only [gName, tYes]
        refine iteT ?_
        refine ⟨_, rfl, _, rfl, a, r, rows, wide, high, b, rfl, S _ _ ha, hG, S _ _ hr, htb b (List.mem_of_getElem? hb), b1, b2, fun l H3 S3 nl hl3 => ⟨?_, ?_, S.trans S3, _, rfl⟩⟩
        · rw [← List.take_append_getElem hil, ev, List.map_append]
          exact (hw.same S3).app (.cons ⟨l, rfl, S.free nl, hl3⟩ .nil)
        · rw [List.nodup_append]
          refine ⟨nd, List.nodup_cons.mpr ⟨List.not_mem_nil, List.nodup_nil⟩, fun z hz y hy e => ?_⟩
          rw [List.mem_singleton.mp hy] at e
          rw [e] at hz
          exact hw.notin nl hz
      rintro ys σ H3 ⟨hw, nd, S3, _⟩ l nl
      rw [hl, List.take_length] at hw
      exact q l ys _ (S3.trans (same_new nl)) (S3.free nl) upd_same (hw.same (same_new nl)) nd (hw.notin nl)
    · have e : (bs.map fun b => prn b wide high).all id = false := by
        rw [List.all_eq_false]
        exact ⟨_, List.mem_map.mpr ⟨b, hb, rfl⟩, by rw [hno]; decide⟩
      rw [e]
      exact iteT ⟨by show 1 ≤ sizeLine; decide, qe H2 S2⟩
end
end KX
set_option Elab.async false
set_option linter.all false
set_option maxRecDepth 100000
set_option maxHeartbeats 1000000
namespace KX
open PySem L2 Lin
def signs : List Nat := (List.range 94).filterMap fun i => if i + 33 = 37 then none else some (i + 33)
theorem signs_len : signs.length = 93 := by decide +kernel
theorem cut_row {t : List Nat} {w h y : Nat} (hy : y < h) (ht : w * h ≤ t.length) : (cutN t (some ((y : Int) * w)) (some (((y : Int) + 1) * w))).length = w := by
  have e1 : (y : Int) * w = ((y * w : Nat) : Int) := by rw [Int.natCast_mul]
  have e2 : ((y : Int) + 1) * w = (((y + 1) * w : Nat) : Int) := by rw [Int.natCast_mul]; rfl
  have l1 : (y + 1) * w ≤ t.length := Nat.le_trans (Nat.mul_le_mul_right w hy) (by rw [Nat.mul_comm]; exact ht)
  have l2 : (y + 1) * w = y * w + w := Nat.succ_mul y w
  unfold cutN
  rw [e1, e2, HT.sIx_nat, HT.sIx_nat, List.length_take, List.length_drop]
  omega
def spLwd : Sp := fun vs H Q _ => ∃ cell : Int, vs = [.int cell] ∧ ∀ u : W, 1 ≤ u.length → u.length ≤ 12 → Q (.str (txt u)) H
def spRows (K : PySem.W.Frag) : Sp := fun vs H Q _ => ∃ (a : Addr) (ns : List Int) (wide high : Nat), vs = [.ref a, .int wide, .int high] ∧ SqL K H a (ns.map V.int) ∧ 1 ≤ wide ∧ wide ≤ 30 ∧ 1 ≤ high ∧ high ≤ 12 ∧
  ∀ (l : Addr) (rows : List W) (H' : Hp), Same H H' → H' l = some (.lst (tx rows)) → Grid rows wide high → Q (.ref l) H'
def spLbox : Sp := fun vs H Q _ => ∃ (cell : Int) (wide high : Nat), vs = [.int cell, .int wide, .int high] ∧ 1 ≤ wide ∧ wide ≤ 30 ∧ 1 ≤ high ∧ high ≤ 12 ∧
  ∀ (p : Addr) (b : Q4) (H' : Hp), Same H H' → H' p = some (.tup (bq b)) → b.t < b.b → b.l < b.r → prn b wide high = true → Q (.ref p) H'
section
variable {P : Program} {w : World} {K : PySem.W.Frag} {mg : Str → Option Value} {base : Heap}
theorem scLwd : FnScope ["cell", "some", "word", "left", "k"] ["cell"] (defScope sLw) := ⟨rfl, rfl, rfl, by decide +kernel, rfl, by decide +kernel, by decide +kernel⟩
theorem ok_lwd {f : Addr} {fd : FuncData} (F : Fun K "_law_word" "_law_word" sLw f fd) (tr : mg "range" = none) : FnOk P w K mg base CX0 1 f fd ["cell"] spLwd := by
  refine F.ok scLwd (fun vs H Q E h => ?_) (fun cdv A outer s H vs Q E hr h => ?_)
  · obtain ⟨cell, rfl, _⟩ := h
    rfl
  · obtain ⟨cell, rfl, q⟩ := h
    refine ⟨_, (pss_cons (ps_set (i := 1) scLwd.nd rfl (Or.inl rfl) pe_str)
      (pss_cons (ps_set (i := 2) scLwd.nd rfl (Or.inl rfl) pe_str)
      (pss_cons (ps_set (i := 3) scLwd.nd rfl (Or.inl rfl) (pe_op op_fdiv (pv 0) pe_int))
      (pss_cons (ps_for PassesOwn.never rfl (pi_range1 rfl tr (pa_cons (pe_op op_add pe_int (pe_op op_mod (pv 0) pe_int)) pa_nil)) (pg_name (i := 4) scLwd.nd rfl (Or.inl rfl))
      (pss_cons (ps_set (i := 2) scLwd.nd rfl (Or.inl rfl) (pe_op op_add_str (pv 2) (pe_ix ix_sign (pv 1) (pe_op op_mod (pv 3) pe_int) (fun _ _ => rfl))))
        (pss_one (ps_set (i := 3) scLwd.nd rfl (Or.inl rfl) (pe_op op_add (pe_op op_fdiv (pv 3) pe_int) (pe_op op_mul pe_int (pv 4)))))))
      (pss_one (ps_ret (pv 2))))))), ?_⟩
    have es : ("!\"#$&'()*+,-./0123456789:;<=>?@ABCDEFGHIJKLMNOPQRSTUVWXYZ[\\]^_`abcdefghijklmnopqrstuvwxyz{|}~" : Str) = txt signs := by decide +kernel
    have e0 : ("" : Str) = txt [] := by decide +kernel
    have k0 := Int.emod_nonneg cell (show (12 : Int) ≠ 0 by decide)
    have k1 := Int.emod_lt_of_pos cell (show (0 : Int) < 12 by decide)
    obtain ⟨N, hN⟩ : ∃ N : Nat, (1 : Int) + cell % 12 = N := ⟨(1 + cell % 12).toNat, by omega⟩
    refine ⟨_, rfl, _, _, rfl, rfl, ⟨by decide, by decide⟩, ?_⟩
    refine ⟨_, rfl, _, _, rfl, rfl, (by show (0 : Int) < 12; decide), _, _, rfl, rfl, _, rfl, by omega, by omega, ?_⟩
    rw [hN]
    refine for_range (lo := 0) (n := N) (fun i σ H5 => ∃ (l : W) (o : Option V) (n : Int), σ = [some (.int cell), some (.str (txt signs)), some (.str (txt l)), some (.int n), o] ∧ H5 = H ∧ l.length = i)
      ⟨[], none, _, by rw [← es, ← e0]; rfl, rfl, rfl⟩ ?_ ?_
    · rintro i σ H5 hi ⟨l, o, n, rfl, rfl, ll⟩
      refine run_gname ?_
      have m0 := Int.emod_nonneg n (show (93 : Int) ≠ 0 by decide)
      have m1 := Int.emod_lt_of_pos n (show (0 : Int) < 93 by decide)
      have hn : (n % 93).toNat < signs.length := by rw [signs_len]; omega
      have en : atI signs (n % 93) = some signs[(n % 93).toNat] := by
        have z : atI signs (((n % 93).toNat : Nat) : Int) = some signs[(n % 93).toNat] := atI_nat (List.getElem?_eq_getElem hn)
        rwa [show (((n % 93).toNat : Nat) : Int) = n % 93 by omega] at z
      refine ⟨_, rfl, _, rfl, _, rfl, _, _, rfl, rfl, (by show (0 : Int) < 93; decide), signs, _, signs[(n % 93).toNat], rfl, rfl, by rw [signs_len]; decide, en, ?_⟩
      refine ⟨_, _, rfl, rfl, ?_, ?_⟩
      · rw [txt_len, txt_len]
        exact Nat.le_trans (show l.length + 1 ≤ 100 by omega) (by decide)
      · rw [txt_app]
        refine ⟨_, rfl, _, _, rfl, rfl, ⟨by decide, by decide⟩, _, rfl, _, _, rfl, rfl, .inl ⟨by decide, by decide⟩, _, _, rfl, rfl, ?_⟩
        exact ⟨_, _, _, rfl, rfl, by rw [List.length_append, ll]; rfl⟩
    · rintro σ H5 ⟨l, o, n, rfl, rfl, ll⟩
      exact ⟨_, rfl, q l (by omega) (by omega)⟩
theorem scRows : FnScope ["script", "wide", "high", "text", "k", "cell"] ["script", "wide", "high"] (defScope sRows67) := ⟨rfl, rfl, rfl, by decide +kernel, rfl, by decide +kernel, by decide +kernel⟩
theorem ok_rows {f fC fL : Addr} {fd dC dL : FuncData} (F : Fun K "_law_rows" "_law_rows" sRows67 f fd) (tr : mg "range" = none) (tl : mg "len" = none) (Ce : Callee P w K mg base CX0 2 "_law_cell" fC dC ["script", "k"] (spCell K)) (Lw : Callee P w K mg base CX0 1 "_law_word" fL dL ["cell"] spLwd) :
    FnOk P w K mg base CX0 3 f fd ["script", "wide", "high"] (spRows K) := by
  refine F.ok scRows (fun vs H Q E h => ?_) (fun cdv A outer s H vs Q E hr h => ?_)
  · obtain ⟨a, ns, wide, high, rfl, _⟩ := h
    rfl
  · obtain ⟨a, ns, wide, high, rfl, hS, w1, w2, h1, h2, q⟩ := h
    refine ⟨_, (pss_cons (ps_set (i := 3) scRows.nd rfl (Or.inr rfl) pe_str)
      (pss_cons (ps_set (i := 4) scRows.nd rfl (Or.inl rfl) pe_int)
      (pss_cons (ps_while PassesOwn.never (pt_cmpR op_lt (pe_callB call_len_str (by rfl) tl PySem.boot_len (pa_cons (pv 3) pa_nil)) (pe_op op_mul (pv 1) (pv 2)) (nomark _))
      (pss_cons (ps_set (i := 5) scRows.nd rfl (Or.inl rfl) (pe_call Ce.ok (hr.mono (show 2 ≤ 2 by decide)) rfl Ce.bound Ce.kp Ce.bd .nil pass0 (pa_cons (pv 0) (pa_cons (pe_op op_add pe_int (pe_op op_mod (pe_op op_sub (pv 4) pe_int) pe_int)) pa_nil))))
        (pss_cons (ps_set (i := 3) scRows.nd rfl (Or.inr rfl) (pe_op op_add_str (pe_op op_add_str (pv 3) (pe_call Lw.ok (hr.mono (show 1 ≤ 2 by decide)) rfl Lw.bound Lw.kp Lw.bd .nil pass0 (pa_cons (pv 5) pa_nil))) (pe_op op_repS pe_str (pe_op op_mod (pe_op op_fdiv (pv 5) pe_int) pe_int))))
        (pss_one (ps_set (i := 4) scRows.nd rfl (Or.inl rfl) (pe_op op_add (pv 4) pe_int))))))
      (pss_one (ps_ret (pe_comp (Nc := ["y", "text", "wide"]) (ix := [none, some 3, some 1]) rfl rfl (by exact (pi_range1 rfl tr (pa_cons (pv 2) pa_nil))) (fun _ _ _ _ _ => (pg_name (i := 0) (by show (["y", "text", "wide"] : List Str).Nodup; decide +kernel) rfl (Or.inl rfl))) (fun _ _ _ _ _ => pts_nil) (fun _ _ _ _ _ => (pe_slice sl_str (pv 1) (po_some (pe_op op_mul (pv 0) (pv 2))) (po_some (pe_op op_mul (pe_op op_add (pv 0) pe_int) (pv 2))))))))))), ?_⟩
    have e0 : ("" : Str) = txt [] := by decide +kernel
    have e1 : (" " : Str) = txt [32] := by decide +kernel
    have wh : wide * high ≤ 360 := Nat.le_trans (Nat.mul_le_mul w2 h2) (by decide)
    refine while_n (fun m σ H2 => ∃ (t : W) (k : Nat) (o : Option V), m = wide * high - t.length ∧ t.length ≤ 400 ∧ σ = [some (.ref a), some (.int wide), some (.int high), some (.str (txt t)), some (.int ((3 + k : Nat) : Int)), o] ∧ H2 = H) _
      ⟨[], 0, none, rfl, by decide, by rw [← e0]; rfl, rfl⟩ ?_
    rintro m σ H2 ⟨t, k, o, rfl, tl, rfl, rfl⟩
    refine ⟨(t.length : Int) < (wide : Int) * (high : Int), inferInstance, tst_of (evl_I0 (evl_lenS (evl_var rfl) (by omega)) (evl_I (evl_var rfl) (evl_var rfl) (.inl ⟨by omega, by omega⟩))), fun c => ?_, fun c => ?_⟩
    · have c : t.length < wide * high := by
        rw [← Int.natCast_mul] at c
        exact Int.ofNat_lt.mp c
      have m0 := Int.emod_nonneg (((3 + k : Nat) : Int) - 3) (show (60 : Int) ≠ 0 by decide)
      have m1 := Int.emod_lt_of_pos (((3 + k : Nat) : Int) - 3) (show (0 : Int) < 60 by decide)
      refine ⟨_, rfl, _, rfl, _, _, rfl, rfl, _, _, rfl, rfl, (by show (0 : Int) < 60; decide), _, _, rfl, rfl, a, ns, _, rfl, hS, by omega, by omega, fun cell => ?_⟩
      refine ⟨_, rfl, _, rfl, cell, rfl, fun u u1 u2 => ?_⟩
      have n0 := Int.emod_nonneg (cell / 5) (show (4 : Int) ≠ 0 by decide)
      have n1 := Int.emod_lt_of_pos (cell / 5) (show (0 : Int) < 4 by decide)
      refine ⟨_, _, rfl, rfl, ?_, _, rfl, _, _, rfl, rfl, ⟨by decide, by decide⟩, _, _, rfl, rfl, (by show (0 : Int) < 4; decide), 32, _, by rw [e1], rfl, n0, by omega, ?_⟩
      · rw [txt_len, txt_len]
        exact Nat.le_trans (show _ ≤ 500 by omega) (by decide)
      rw [txt_app]
      refine ⟨_, _, rfl, rfl, ?_, ?_⟩
      · rw [txt_len, txt_len, List.length_append, List.length_replicate]
        exact Nat.le_trans (show _ ≤ 500 by omega) (by decide)
      rw [txt_app]
      refine ⟨_, rfl, _, _, rfl, rfl, ?_⟩
      have lt : (t ++ u ++ List.replicate (cell / 5 % 4).toNat 32).length ≤ t.length + 12 + 3 ∧ t.length + 1 ≤ (t ++ u ++ List.replicate (cell / 5 % 4).toNat 32).length := by
        rw [List.length_append, List.length_append, List.length_replicate]
        omega
      refine ⟨_, ?_, t ++ u ++ List.replicate (cell / 5 % 4).toNat 32, k + 1, _, rfl, by omega, rfl, rfl⟩
      omega
    · have c : wide * high ≤ t.length := by
        rw [← Int.natCast_mul] at c
        exact Nat.not_lt.mp fun z => c (Int.ofNat_lt.mpr z)
      dsimp only
      refine ⟨_, rfl, _, rfl, by omega, by omega, cmp_range (lo := 0) (n := high) (fun i ys σ H3 => ∃ rows : List W, ys = tx rows ∧ rows.length = i ∧ (∀ r ∈ rows, r.length = wide) ∧ H3 = H2 ∧ ∃ o, σ = [o, some (.str (txt t)), some (.int wide)])
        ⟨[], rfl, rfl, fun r hr => (List.not_mem_nil hr).elim, rfl, none, rfl⟩ (fun i ys σ H3 hi ⟨rows, e, l, _⟩ => by rw [e, tx_len, l]; exact Nat.le_trans (show i ≤ 1000 by omega) (by decide)) ?_ ?_⟩
      case refine_2 =>
        rintro i ys σ H3 hi ⟨rows, rfl, l, hw, rfl, o, rfl⟩
        rw [show (0 : Int) + (i : Int) = (i : Int) from Int.zero_add _]
        dsimp only [gName, tYes]
        refine iteT ?_
        refine ⟨_, rfl, _, rfl, _, rfl, _, _, rfl, rfl, .inl ⟨by omega, by omega⟩, _, rfl, _, rfl, _, _, rfl, rfl, _, rfl, _, _, rfl, rfl, .inl ⟨by omega, by omega⟩, _, rfl, t, rfl, by omega, ?_⟩
        refine ⟨_, tx_snoc _ _, by rw [List.length_append, l]; rfl, fun r hr => ?_, rfl, _, rfl⟩
        rcases List.mem_append.mp hr with z | z
        · exact hw r z
        · rw [List.mem_singleton.mp z]
          exact cut_row hi c
      rintro ys σ H3 ⟨rows, rfl, l, hw, rfl, _⟩ p np
      exact q p rows _ (same_new np) upd_same ⟨l, hw, w1, w2, h2⟩
theorem scLbox : FnScope ["cell", "wide", "high", "left", "top"] ["cell", "wide", "high"] (defScope sLbox) := ⟨rfl, rfl, rfl, by decide +kernel, rfl, by decide +kernel, by decide +kernel⟩
theorem ok_lbox {f : Addr} {fd : FuncData} (F : Fun K "_law_box" "_law_box" sLbox f fd) : FnOk P w K mg base CX0 1 f fd ["cell", "wide", "high"] spLbox := by
  refine F.ok scLbox (fun vs H Q E h => ?_) (fun cdv A outer s H vs Q E hr h => ?_)
  · obtain ⟨cell, wide, high, rfl, _⟩ := h
    rfl
  · obtain ⟨cell, wide, high, rfl, w1, w2, h1, h2, q⟩ := h
    refine ⟨_, (pss_cons (ps_set (i := 3) scLbox.nd rfl (Or.inl rfl) (pe_op op_mod (pv 0) (pv 1)))
      (pss_cons (ps_set (i := 4) scLbox.nd rfl (Or.inl rfl) (pe_op op_mod (pe_op op_fdiv (pv 0) pe_int) (pv 2)))
      (pss_one (ps_ret (pe_tup (pa_cons (pv 3) (pa_cons (pv 4) (pa_cons (pe_op op_add (pe_op op_add (pv 3) pe_int) (pe_op op_mod (pe_op op_fdiv (pv 0) pe_int) (pe_op op_sub (pv 1) (pv 3)))) (pa_cons (pe_op op_add (pe_op op_add (pv 4) pe_int) (pe_op op_mod (pe_op op_fdiv (pv 0) pe_int) (pe_op op_sub (pv 2) (pv 4)))) pa_nil))))))))), ?_⟩
    have l0 := Int.emod_nonneg cell (show (wide : Int) ≠ 0 by omega)
    have l1 := Int.emod_lt_of_pos cell (show (0 : Int) < wide by omega)
    have t0 := Int.emod_nonneg (cell / 30) (show (high : Int) ≠ 0 by omega)
    have t1 := Int.emod_lt_of_pos (cell / 30) (show (0 : Int) < high by omega)
    have r0 := Int.emod_nonneg (cell / 360) (show (wide : Int) - cell % wide ≠ 0 by omega)
    have r1 := Int.emod_lt_of_pos (cell / 360) (show (0 : Int) < wide - cell % wide by omega)
    have b0 := Int.emod_nonneg (cell / 10800) (show (high : Int) - cell / 30 % high ≠ 0 by omega)
    have b1 := Int.emod_lt_of_pos (cell / 10800) (show (0 : Int) < high - cell / 30 % high by omega)
    refine seq_asg (v := .int (cell % wide)) (evl_I (evl_var rfl) (evl_var rfl) (by show (0 : Int) < wide; omega)) ?_
    refine seq_asg (v := .int (cell / 30 % high)) (evl_I (evl_I (evl_var rfl) evl_c ⟨by decide, by decide⟩) (evl_var rfl) (by show (0 : Int) < high; omega)) ?_
    refine run_tup4 (v1 := .int (cell % wide)) (v2 := .int (cell / 30 % high)) (v3 := .int (cell % wide + 1 + cell / 360 % (wide - cell % wide))) (v4 := .int (cell / 30 % high + 1 + cell / 10800 % (high - cell / 30 % high))) (evl_var rfl) (evl_var rfl)
      (evl_I0 (evl_I0 (evl_var rfl) evl_c) (evl_I (evl_I (evl_var rfl) evl_c ⟨by decide, by decide⟩) (evl_I0 (evl_var rfl) (evl_var rfl)) (by show (0 : Int) < _; omega)))
      (evl_I0 (evl_I0 (evl_var rfl) evl_c) (evl_I (evl_I (evl_var rfl) evl_c ⟨by decide, by decide⟩) (evl_I0 (evl_var rfl) (evl_var rfl)) (by show (0 : Int) < _; omega))) (fun p np => ?_)
    generalize cell % wide = L at *
    generalize cell / 30 % high = T at *
    generalize cell / 360 % (wide - L) = R at *
    generalize cell / 10800 % (high - T) = B at *
    exact q p ⟨L, T, L + 1 + R, T + 1 + B⟩ _ (same_new np) upd_same (by show T < T + 1 + B; omega) (by show L < L + 1 + R; omega) (decide_eq_true ⟨by show 0 ≤ L; omega, by show 0 ≤ T; omega, by show T + 1 + B ≤ high; omega, by show L + 1 + R ≤ wide; omega⟩)
end
end KX
set_option Elab.async false
set_option linter.all false
set_option maxRecDepth 100000
set_option maxHeartbeats 1000000
namespace KX
open PySem L2 Lin
def stp (s : List W × W) (c : Nat) : List W × W := if c ≠ 32 then (s.1, s.2 ++ [c]) else if s.2 ≠ [] then (s.1 ++ [s.2], []) else s
def fin (s : List W × W) : List W := if s.2 ≠ [] then s.1 ++ [s.2] else s.1
theorem fin_fold : ∀ (r : W) (s : List W × W), fin (r.foldl stp s) = s.1 ++ str1 s.2 r
  | [], s => by
    show (if s.2 ≠ [] then s.1 ++ [s.2] else s.1) = s.1 ++ (if s.2 = [] then [] else [s.2])
    by_cases e : s.2 = []
    · rw [if_neg (fun z => z e), if_pos e, List.append_nil]
    · rw [if_pos e, if_neg e]
  | c :: r, s => by
    rw [List.foldl_cons, fin_fold r]
    conv => rhs; unfold str1
    unfold stp
    by_cases c1 : c = 32
    · rw [if_neg (fun z => z c1), if_pos c1]
      by_cases e : s.2 = []
      · rw [if_neg (fun z => z e), if_pos e, e]
      · rw [if_pos e, if_neg e, List.append_assoc]
        rfl
    · rw [if_pos c1, if_neg c1]
theorem fold_len : ∀ (r : W) (s : List W × W), (r.foldl stp s).1.length ≤ s.1.length + r.length ∧ (r.foldl stp s).2.length ≤ s.2.length + r.length
  | [], s => ⟨Nat.le_refl _, Nat.le_refl _⟩
  | c :: r, s => by
    have ih := fold_len r (stp s c)
    have h1 : (stp s c).1.length ≤ s.1.length + 1 ∧ (stp s c).2.length ≤ s.2.length + 1 := by
      unfold stp
      split
      · exact ⟨Nat.le_succ _, by rw [List.length_append]; exact Nat.le_refl _⟩
      · split
        · exact ⟨by rw [List.length_append]; exact Nat.le_refl _, Nat.zero_le _⟩
        · exact ⟨Nat.le_succ _, Nat.le_succ _⟩
    rw [List.foldl_cons, List.length_cons]
    omega
theorem str1_len : ∀ (r cur : W), (str1 cur r).length ≤ r.length + 1
  | [], cur => by
    unfold str1
    split
    · exact Nat.zero_le _
    · exact Nat.le_refl _
  | c :: r, cur => by
    unfold str1
    have h := fun cur => str1_len r cur
    split
    · split
      · have := h []
        rw [List.length_cons]
        omega
      · have := h []
        rw [List.length_cons, List.length_cons]
        omega
    · have := h (cur ++ [c])
      rw [List.length_cons]
      omega
theorem flat_len {B : Nat} {f : W → List W} : ∀ {ls : List W}, (∀ l ∈ ls, (f l).length ≤ B) → (ls.map f).flatten.length ≤ B * ls.length
  | [], _ => Nat.zero_le _
  | a :: r, h => by
    have := flat_len (B := B) (f := f) (ls := r) fun l hl => h l (List.mem_cons_of_mem _ hl)
    have := h a List.mem_cons_self
    rw [List.map_cons, List.flatten_cons, List.length_append, List.length_cons, Nat.mul_add]
    omega
theorem cut1_get {r : W} {b : Q4} {i : Nat} (h : i < b.r.toNat - b.l.toNat) : (cut1 b r)[i]? = r[b.l.toNat + i]? := by
  unfold cut1
  rw [List.getElem?_take_of_lt h, List.getElem?_drop]
theorem cutB_get {rows : List W} {b : Q4} {i : Nat} (h : i < b.b.toNat - b.t.toNat) : (cutB rows b)[i]? = rows[b.t.toNat + i]? := by
  unfold cutB
  rw [List.getElem?_take_of_lt h, List.getElem?_drop]
theorem ne_blank (c : Nat) : (!decide (V.str (txt [c]) = V.str " ")) = decide (c ≠ 32) := by
  have e : (" " : Str) = txt [32] := by decide +kernel
  rw [e]
  by_cases h : c = 32
  · subst h
    simp
  · rw [decide_eq_true h, decide_eq_false fun z => h (by have := txt_inj (V.str.inj z); simpa using this)]
    rfl
def spLws : Sp := fun vs H Q _ => ∃ (a p : Addr) (rows : List W) (wide high : Nat) (b : Q4), vs = [.ref a, .ref p] ∧ H a = some (.lst (tx rows)) ∧ Grid rows wide high ∧ H p = some (.tup (bq b)) ∧ b.t < b.b ∧ b.l < b.r ∧ prn b wide high = true ∧ ∀ (l : Addr) (H' : Hp), Same H H' → H l = none → H' l = some (.lst (tx (wds rows b))) → Q (.ref l) H'
section
variable {P : Program} {w : World} {K : PySem.W.Frag} {mg : Str → Option Value} {base : Heap}
theorem scLws : FnScope ["rows", "box", "found", "y", "word", "x"] ["rows", "box"] (defScope sLws) := ⟨rfl, rfl, rfl, by decide +kernel, rfl, by decide +kernel, by decide +kernel⟩
theorem ok_lws {f : Addr} {fd : FuncData} (F : Fun K "_law_words" "_law_words" sLws f fd) (tr : mg "range" = none) : FnOk P w K mg base CX0 1 f fd ["rows", "box"] spLws := by
  refine F.ok scLws (fun vs H Q E h => ?_) (fun cdv A outer s H vs Q E hr h => ?_)
  · obtain ⟨a, p, rows, wide, high, b, rfl, _⟩ := h
    rfl
  · obtain ⟨a, p, rows, wide, high, b, rfl, ha, ⟨g1, g2, g3, g4, g5⟩, hp, tb, lr, pr, q⟩ := h
    refine ⟨_, (pss_cons (ps_set (i := 2) scLws.nd rfl (Or.inl rfl) (pe_lst pa_nil))
      (pss_cons (ps_for PassesOwn.never rfl (pi_range2 rfl tr (pa_cons (pe_ix ix_tup (pv 1) pe_int (fun _ _ => rfl)) (pa_cons (pe_ix ix_tup (pv 1) pe_int (fun _ _ => rfl)) pa_nil))) (pg_name (i := 3) scLws.nd rfl (Or.inl rfl))
      (pss_cons (ps_set (i := 4) scLws.nd rfl (Or.inl rfl) pe_str)
        (pss_cons (ps_for PassesOwn.never rfl (pi_range2 rfl tr (pa_cons (pe_ix ix_tup (pv 1) pe_int (fun _ _ => rfl)) (pa_cons (pe_ix ix_tup (pv 1) pe_int (fun _ _ => rfl)) pa_nil))) (pg_name (i := 5) scLws.nd rfl (Or.inl rfl))
        (pss_one (ps_if (pt_cmpR op_ne (pe_ix ix_sign (pe_ix ix_list (pv 0) (pv 3) (fun _ _ => rfl)) (pv 5) (fun _ _ => rfl)) pe_str (nomark _))
          (pss_one (ps_set (i := 4) scLws.nd rfl (Or.inl rfl) (pe_op op_add_str (pv 4) (pe_ix ix_sign (pe_ix ix_list (pv 0) (pv 3) (fun _ _ => rfl)) (pv 5) (fun _ _ => rfl)))))
          (pss_one (ps_if (pt_cmpR op_ne (pv 4) pe_str (nomark _))
            (pss_cons (ps_expr (pe_bm PySem.F.plainAttrs_list PySem.F.slot_list_append PySem.F.type_list_append mt_append (pv 2) (pa_cons (pv 4) pa_nil)))
              (pss_one (ps_set (i := 4) scLws.nd rfl (Or.inl rfl) pe_str)))
            pss_nil)))))
        (pss_one (ps_if (pt_cmpR op_ne (pv 4) pe_str (nomark _))
        (pss_one (ps_expr (pe_bm PySem.F.plainAttrs_list PySem.F.slot_list_append PySem.F.type_list_append mt_append (pv 2) (pa_cons (pv 4) pa_nil))))
        pss_nil)))))
      (pss_one (ps_ret (pv 2))))), ?_⟩
    have c1 := of_decide_eq_true pr
    have e0 : ("" : Str) = txt [] := by decide +kernel
    refine seq_lst ⟨by show 0 ≤ sizeLine; decide, fun l nl => ?_⟩
    have S1 := same_new (o := .lst []) nl
    have hl1 : (upd H l (.lst [])) l = some (.lst []) := upd_same
    generalize upd H l (.lst []) = H1 at S1 hl1
    have la : a ≠ l := ne_of_none ha nl
    refine ⟨_, rfl, p, _, _, _, rfl, rfl, SqT.of (S1 _ _ hp), rfl, _, rfl, p, _, _, _, rfl, rfl, SqT.of (S1 _ _ hp), rfl, b.t, b.b, rfl, ⟨by omega, by omega, by omega, by omega⟩, ?_⟩
    refine for_range (lo := b.t) (n := (b.b - b.t).toNat) (fun j σ H2 => ∃ o3 o4 o5 : Option V, σ = [some (.ref a), some (.ref p), some (.ref l), o3, o4, o5] ∧ Same H H2 ∧ H2 l = some (.lst (tx ((((cutB rows b).take j).map fun r => str1 [] (cut1 b r)).flatten))))
      ⟨none, none, none, rfl, S1, hl1⟩ ?_ ?_
    · rintro j σ H2 hj ⟨o3, o4, o5, rfl, S2, hl2⟩
      refine run_gname ?_
      obtain ⟨row, hrow⟩ : ∃ row, rows[b.t.toNat + j]? = some row := ⟨_, List.getElem?_eq_getElem (by omega)⟩
      have lrow := g2 row (List.mem_of_getElem? hrow)
      have hcut : (cutB rows b)[j]? = some row := by rw [cutB_get (by omega)]; exact hrow
      obtain ⟨hjl, ej⟩ := List.getElem?_eq_some_iff.mp hcut
      have fl := flat_len (B := 31) (f := fun r => str1 [] (cut1 b r)) (ls := (cutB rows b).take j) fun r hr => by
        have := str1_len (cut1 b r) []
        have := cut1_len r b
        have := g2 r (cutB_mem (List.mem_of_mem_take hr))
        omega
      have tk : ((cutB rows b).take j).length ≤ 12 := by
        have := cutB_len rows b
        rw [List.length_take]
        omega
      have enext : (((cutB rows b).take (j + 1)).map fun r => str1 [] (cut1 b r)).flatten = (((cutB rows b).take j).map fun r => str1 [] (cut1 b r)).flatten ++ str1 [] (cut1 b row) := by
        rw [← List.take_append_getElem hjl, ej, List.map_append, List.flatten_append]
        simp
      rw [enext]
      generalize (((cutB rows b).take j).map fun r => str1 [] (cut1 b r)).flatten = f0 at hl2 fl ⊢
      have atr : atI (tx rows) (b.t + (j : Int)) = some (V.str (txt row)) := by
        have := atI_nat (tx_get hrow)
        rwa [show ((b.t.toNat + j : Nat) : Int) = b.t + (j : Int) by omega] at this
      have cl : (cut1 b row).length = (b.r - b.l).toNat := by
        unfold cut1
        rw [List.length_take, List.length_drop]
        omega
      refine ⟨_, rfl, p, _, _, _, rfl, rfl, SqT.of (S2 _ _ hp), rfl, _, rfl, p, _, _, _, rfl, rfl, SqT.of (S2 _ _ hp), rfl, b.l, b.r, rfl, ⟨by omega, by omega, by omega, by omega⟩, ?_⟩
      refine for_range (lo := b.l) (n := (b.r - b.l).toNat) (fun i σ H3 => ∃ o5 : Option V, σ = [some (.ref a), some (.ref p), some (.ref l), some (.int (b.t + (j : Int))), some (.str (txt (((cut1 b row).take i).foldl stp (f0, [])).2)), o5] ∧ Same H H3 ∧ H3 l = some (.lst (tx (((cut1 b row).take i).foldl stp (f0, [])).1)))
        ⟨o5, by rw [e0]; rfl, S2, hl2⟩ ?_ ?_
      · rintro i σ H3 hi ⟨o5, rfl, S3, hl3⟩
        refine run_gname ?_
        obtain ⟨c, hc⟩ : ∃ c, row[b.l.toNat + i]? = some c := ⟨_, List.getElem?_eq_getElem (by omega)⟩
        have hcc : (cut1 b row)[i]? = some c := by rw [cut1_get (by omega)]; exact hc
        obtain ⟨hil, ei⟩ := List.getElem?_eq_some_iff.mp hcc
        have en : ((cut1 b row).take (i + 1)).foldl stp (f0, []) = stp (((cut1 b row).take i).foldl stp (f0, [])) c := by
          rw [← List.take_append_getElem hil, ei, List.foldl_append]
          rfl
        rw [en]
        have bd := fold_len ((cut1 b row).take i) (f0, [])
        have lt : ((cut1 b row).take i).length ≤ 30 := by
          rw [List.length_take]
          omega
        generalize ((cut1 b row).take i).foldl stp (f0, []) = s at bd hl3 ⊢
        have b1 : s.1.length ≤ 500 := by
          have := bd.1
          have : f0.length ≤ 31 * 12 := Nat.le_trans fl (Nat.mul_le_mul_left 31 tk)
          simp only at *
          omega
        have b2 : s.2.length ≤ 500 := by
          have := bd.2
          simp only [List.length_nil] at *
          omega
        have atc : atI row (b.l + (i : Int)) = some c := by
          have := atI_nat hc
          rwa [show ((b.l.toNat + i : Nat) : Int) = b.l + (i : Int) by omega] at this
        have sg : ∀ Q : VK, Q (.str (txt [c])) H3 → rIxC (.str (txt row)) (.int (b.l + (i : Int))) H3 Q := fun Q z => ⟨row, _, c, rfl, rfl, by omega, atc, z⟩
        refine ⟨_, rfl, _, rfl, a, _, _, _, rfl, rfl, SqL.of (S3 _ _ ha), atr, _, rfl, sg _ ?_⟩
        refine ⟨rfl, _, rfl, ?_⟩
        rw [ne_blank]
        unfold stp
        by_cases c32 : c ≠ 32
        · rw [decide_eq_true c32, if_pos c32]
          refine iteT ⟨_, rfl, _, rfl, _, rfl, a, _, _, _, rfl, rfl, SqL.of (S3 _ _ ha), atr, _, rfl, sg _ ?_⟩
          refine ⟨_, _, rfl, rfl, ?_, ?_⟩
          · rw [txt_len, txt_len]
            exact Nat.le_trans (show s.2.length + 1 ≤ 600 by omega) (by decide)
          · rw [txt_app]
            exact ⟨_, rfl, S3, hl3⟩
        · rw [decide_eq_false c32, if_neg c32]
          refine iteF ⟨_, rfl, rfl, _, rfl, ?_⟩
          rw [ne_empty]
          by_cases c2 : s.2 ≠ []
          · rw [decide_eq_true c2, if_pos c2]
            refine iteT ⟨_, rfl, .inl ⟨rfl, _, SqL.of hl3⟩, _, rfl, l, _, _, rfl, rfl, hl3, ?_, ?_⟩
            · rw [tx_len]
              exact Nat.lt_of_le_of_lt b1 (by decide)
            · refine ⟨_, by rw [e0]; rfl, same_upd S3 nl, ?_⟩
              rw [upd_same, tx_snoc]
          · rw [decide_eq_false c2, if_neg c2]
            exact iteF ⟨_, rfl, S3, hl3⟩
      · rintro σ H3 ⟨o5, rfl, S3, hl3⟩
        rw [← cl, List.take_length] at *
        have ff := fin_fold (cut1 b row) (f0, [])
        have bd := fold_len (cut1 b row) (f0, [])
        generalize (cut1 b row).foldl stp (f0, []) = s at hl3 ff bd ⊢
        have b1 : s.1.length ≤ 500 := by
          have := bd.1
          have := cut1_len row b
          have : f0.length ≤ 31 * 12 := Nat.le_trans fl (Nat.mul_le_mul_left 31 tk)
          simp only at *
          omega
        dsimp only
        refine ⟨_, rfl, rfl, _, rfl, ?_⟩
        rw [ne_empty]
        unfold fin at ff
        by_cases c2 : s.2 ≠ []
        · rw [if_pos c2] at ff
          rw [decide_eq_true c2]
          refine iteT ⟨_, rfl, .inl ⟨rfl, _, SqL.of hl3⟩, _, rfl, l, _, _, rfl, rfl, hl3, ?_, ?_⟩
          · rw [tx_len]
            exact Nat.lt_of_le_of_lt b1 (by decide)
          · refine ⟨_, _, _, rfl, same_upd S3 nl, ?_⟩
            rw [upd_same, tx_snoc, ff]
        · rw [if_neg c2] at ff
          rw [decide_eq_false c2]
          refine iteF ⟨_, _, _, rfl, S3, ?_⟩
          rw [hl3, ff]
    · rintro σ H2 ⟨o3, o4, o5, rfl, S2, hl2⟩
      have ec : (cutB rows b).length = (b.b - b.t).toNat := by
        unfold cutB
        rw [List.length_take, List.length_drop]
        omega
      rw [← ec, List.take_length] at hl2
      exact ⟨_, rfl, q l H2 S2 nl hl2⟩
end
end KX
set_option Elab.async false
set_option linter.all false
set_option maxRecDepth 100000
set_option maxHeartbeats 1000000
namespace L2
open PySem
theorem call_isiK {X : Cx} {K : PySem.W.Frag} (hK : X.K = K) : CallR X (.builtin "isinstance") (fun xs H Q => ∃ x c t b, xs = [x, c] ∧ isCls c = true ∧ TyX K H x t ∧ PySem.W.kitOne K t (clsV c) = some b ∧ Q (.bl b) H) := by
  subst hK
  exact call_isi
theorem call_isiTK {X : Cx} {K : PySem.W.Frag} (hK : X.K = K) : CallR X (.builtin "isinstance") (fun xs H Q => ∃ x p cs t b, xs = [x, .ref p] ∧ SqT K H p cs ∧ cs.all isCls = true ∧ TyX K H x t ∧ PySem.W.kitAny K t (cs.map clsV) = some b ∧ Q (.bl b) H) := by
  subst hK
  exact call_isiT
theorem pe_appK {X : Cx} {K : PySem.W.Frag} {o e : Expr} {to : TE} {t : TA} {apos cpos : Pos} (hK : X.K = K) (ho : PE X o to) (ha : PA X [e] t)
    (hbase : attributeBase o "append" X.env (eval o X.env) = eval o X.env := by rfl)
    (hfew : ((backTo cpos (starEach [e] X.env)).all (fun x => !x.1) && (backToKw cpos (keywordEach [] X.env)).all (fun x => x.1.isSome)
      && decide ([e].length + ([] : List Keyword).length + (if ([] : List Keyword).isEmpty then 0 else 1) < 30)) = true := by rfl)
    (hline : (apos.endLine == cpos.line) = true := by rfl) (hs : starEach [e] X.env = (false, eval e X.env) :: starEach [] X.env := by rfl) (hplain : (backTo cpos (starEach [] X.env)).any (·.1) = false := by rfl) :
    PE X (.Call (.Attribute o "append" apos) [e] [] cpos) (tBM K "list" rAppend to t) := by
  subst hK
  exact pe_bm PySem.F.plainAttrs_list PySem.F.slot_list_append PySem.F.type_list_append mt_append ho ha hbase hfew hline hs hplain
end L2
namespace KX
open PySem L2 Lin PySem.W
structure Kinds (K : PySem.W.Frag) (mg : Str → Option Value) (C0 C1 C2 C3 C4 C5 C6 C7 C8 C9 : Addr) : Prop where
  m0 : mg "PartError" = some (.ref C0)
  m1 : mg "NoPage" = some (.ref C1)
  m2 : mg "NoPicture" = some (.ref C2)
  m3 : mg "NoPlace" = some (.ref C3)
  m4 : mg "NoTree" = some (.ref C4)
  m5 : mg "NoNeeds" = some (.ref C5)
  m6 : mg "NoTexts" = some (.ref C6)
  m7 : mg "NoRoom" = some (.ref C7)
  m8 : mg "NoRow" = some (.ref C8)
  m9 : mg "NoNumber" = some (.ref C9)
  mv : mg "ValueError" = none
  cP : ExcCls K C0
  c3 : ExcCls K C3
  up : mroIn K C3 (.ref C0) = some true
  k3 : kitOne K (.ref C3) (.ref C3) = some true
  kv : kitOne K (.ref C3) (.type "ValueError") = some true
  kA : kitAny K (.ref C3) [.ref C2, .ref C1, .ref C4, .ref C5] = some false
  kB : kitAny K (.ref C3) [.ref C6, .ref C7, .ref C8, .ref C9] = some false
def spRefused : Sp := fun vs H Q _ => ∃ (a p : Addr) (rows : List W) (wide high : Nat) (bvs : List V) (bs : List Q4), vs = [.ref a, .ref p] ∧ H a = some (.lst (tx rows)) ∧ Grid rows wide high ∧ H p = some (.lst bvs) ∧ BxsAt H bvs bs ∧ (∀ b ∈ bs, b.t < b.b) ∧ bs.length ≤ 1000 ∧ (∃ b ∈ bs, prn b wide high = false) ∧ ∀ H', Same H H' → Q (.bl true) H'
theorem boot_VE : bootBuiltins "ValueError" = some (.type "ValueError") := by decide +kernel
section
variable {P : Program} {w : World} {K : PySem.W.Frag} {mg : Str → Option Value} {base : Heap}
theorem scRef : FnScope ["rows", "boxes", "kinds", "e"] ["rows", "boxes"] (defScope sRef) := ⟨rfl, rfl, rfl, by decide +kernel, rfl, by decide +kernel, by decide +kernel⟩
theorem ok_refused {f fB C0 C1 C2 C3 C4 C5 C6 C7 C8 C9 : Addr} {fd fdB : FuncData} (F : Fun K "_law_refused" "_law_refused" sRef f fd) (ti : mg "isinstance" = none) (Z : Kinds K mg C0 C1 C2 C3 C4 C5 C6 C7 C8 C9)
    (Wi : Callee P w K mg base (CXE P w) 3 "words_in" fB fdB ["rows", "boxes"] (spWin C3)) : FnOk P w K mg base CX0 4 f fd ["rows", "boxes"] spRefused := by
  refine F.ok scRef (fun vs H Q E h => ?_) (fun cdv A outer s H vs Q E hr h => ?_)
  · obtain ⟨a, p, rows, wide, high, bvs, bs, rfl, _⟩ := h
    rfl
  · obtain ⟨a, p, rows, wide, high, bvs, bs, rfl, ha, hG, hp, hB, htb, hn, hbad, q⟩ := h
    refine ⟨_, pss_cons (ps_set (i := 2) scRef.nd rfl (Or.inl rfl) (pe_lst pa_nil))
      (pss_cons (ps_try (i := 3) rfl rfl scRef.nd rfl rfl rfl Z.m0 Z.cP
        (fun pl Ec => pss_one (ps_expr (pe_callX Wi.ok hr rfl Wi.bound Wi.kp Wi.bd .nil rfl (pa_cons (pv 0) (pa_cons (pv 1) pa_nil)))))
        (fun ee => pss_cons (ps_set (i := 2) scRef.nd rfl (Or.inl rfl) (pe_lst (pa_cons (pe_callB (call_isiK (K := K) rfl) (by rfl) ti PyProof.Rows.boot_isinstance (pa_cons (pv 3) (pa_cons (pe_cls rfl Z.m3) pa_nil))) (pa_cons (pe_callB (call_isiK (K := K) rfl) (by rfl) ti PyProof.Rows.boot_isinstance (pa_cons (pv 3) (pa_cons (pe_tyn rfl Z.mv boot_VE) pa_nil))) pa_nil))))
          (pss_cons (ps_expr (pe_appK (K := K) rfl (pv 2) (pa_cons (pe_callB (call_isiTK (K := K) rfl) (by rfl) ti PyProof.Rows.boot_isinstance (pa_cons (pv 3) (pa_cons (pe_tup (pa_cons (pe_cls rfl Z.m2) (pa_cons (pe_cls rfl Z.m1) (pa_cons (pe_cls rfl Z.m4) (pa_cons (pe_cls rfl Z.m5) pa_nil))))) pa_nil))) pa_nil)))
          (pss_one (ps_expr (pe_appK (K := K) rfl (pv 2) (pa_cons (pe_callB (call_isiTK (K := K) rfl) (by rfl) ti PyProof.Rows.boot_isinstance (pa_cons (pv 3) (pa_cons (pe_tup (pa_cons (pe_cls rfl Z.m6) (pa_cons (pe_cls rfl Z.m7) (pa_cons (pe_cls rfl Z.m8) (pa_cons (pe_cls rfl Z.m9) pa_nil))))) pa_nil))) pa_nil)))))))
      (pss_one (ps_ret (pe_cmpR (op_eqL hr.units0) (pv 2) (pe_lst (pa_cons pe_bl (pa_cons pe_bl (pa_cons pe_bl (pa_cons pe_bl pa_nil))))) (nomark _))))), ?_⟩
    refine seq_lst ⟨by show 0 ≤ sizeLine; decide, fun l0 n0 => ?_⟩
    have S0 := same_new (o := .lst []) n0
    generalize upd H l0 (.lst []) = H0 at S0
    refine ⟨_, rfl, _, rfl, a, p, rows, wide, high, bvs, bs, rfl, S0 _ _ ha, hG, S0 _ _ hp, hB.same S0, htb, hn, .inr ⟨hbad, fun H1 S1 => ⟨C3, rfl, Z.up, fun ea hea => ?_⟩⟩⟩
    have SE := same_new (o := .ext (ExcIs ea C3)) hea
    have hE : (upd H1 ea (.ext (ExcIs ea C3))) ea = some (.ext (ExcIs ea C3)) := upd_same
    generalize upd H1 ea (.ext (ExcIs ea C3)) = H2 at SE hE ⊢
    refine seq_lst ?_
    refine ⟨_, rfl, _, _, _, _, rfl, rfl, .exc hE Z.c3, Z.k3, ?_⟩
    refine ⟨_, rfl, _, _, _, _, rfl, rfl, .exc hE Z.c3, Z.kv, by show 2 ≤ sizeLine; decide, fun lk nk => ?_⟩
    have Sk := same_new (o := .lst [.bl true, .bl true]) nk
    have hK : (upd H2 lk (.lst [.bl true, .bl true])) lk = some (.lst [.bl true, .bl true]) := upd_same
    have hE3 := Sk _ _ hE
    have fk : H lk = none := (S0.trans (S1.trans SE)).free nk
    have S3 := S0.trans (S1.trans (SE.trans Sk))
    generalize upd H2 lk (.lst [.bl true, .bl true]) = H3 at Sk hK hE3 S3 ⊢
    refine ⟨_, rfl, .inl ⟨rfl, _, SqL.of hK⟩, _, rfl, by show 4 ≤ sizeLine; decide, fun t1 nt1 => ?_⟩
    have St := same_new (o := .tup [.ref C2, .ref C1, .ref C4, .ref C5]) nt1
    refine ⟨_, _, _, _, _, rfl, SqT.of upd_same, rfl, .exc (St _ _ hE3) Z.c3, Z.kA, lk, _, _, rfl, rfl, St _ _ hK, by show 2 < sizeLine; decide, ?_⟩
    have S4 : Same H (upd (upd H3 t1 (.tup [.ref C2, .ref C1, .ref C4, .ref C5])) lk (.lst ([.bl true, .bl true] ++ [.bl false]))) := same_upd (S3.trans St) fk
    have hK4 : (upd (upd H3 t1 (.tup [.ref C2, .ref C1, .ref C4, .ref C5])) lk (.lst ([.bl true, .bl true] ++ [.bl false]))) lk = some (.lst [.bl true, .bl true, .bl false]) := upd_same
    have ek : ea ≠ lk := fun z => by
      rw [← z] at nk
      rw [nk] at hE
      cases hE
    have hE4 : (upd (upd H3 t1 (.tup [.ref C2, .ref C1, .ref C4, .ref C5])) lk (.lst ([.bl true, .bl true] ++ [.bl false]))) ea = some (.ext (ExcIs ea C3)) := (upd_ne ek).trans (St _ _ hE3)
    generalize upd (upd H3 t1 (.tup [.ref C2, .ref C1, .ref C4, .ref C5])) lk (.lst ([.bl true, .bl true] ++ [.bl false])) = H4 at S4 hK4 hE4 ⊢
    refine ⟨_, rfl, .inl ⟨rfl, _, SqL.of hK4⟩, _, rfl, by show 4 ≤ sizeLine; decide, fun t2 nt2 => ?_⟩
    have St2 := same_new (o := .tup [.ref C6, .ref C7, .ref C8, .ref C9]) nt2
    refine ⟨_, _, _, _, _, rfl, SqT.of upd_same, rfl, .exc (St2 _ _ hE4) Z.c3, Z.kB, lk, _, _, rfl, rfl, St2 _ _ hK4, by show 3 < sizeLine; decide, ?_⟩
    have S5 : Same H (upd (upd H4 t2 (.tup [.ref C6, .ref C7, .ref C8, .ref C9])) lk (.lst ([.bl true, .bl true, .bl false] ++ [.bl false]))) := same_upd (S4.trans St2) fk
    have hK5 : (upd (upd H4 t2 (.tup [.ref C6, .ref C7, .ref C8, .ref C9])) lk (.lst ([.bl true, .bl true, .bl false] ++ [.bl false]))) lk = some (.lst [.bl true, .bl true, .bl false, .bl false]) := upd_same
    generalize upd (upd H4 t2 (.tup [.ref C6, .ref C7, .ref C8, .ref C9])) lk (.lst ([.bl true, .bl true, .bl false] ++ [.bl false])) = H5 at S5 hK5 ⊢
    refine ⟨_, rfl, by show 4 ≤ sizeLine; decide, fun l9 n9 => ?_⟩
    have S9 := same_new (o := .lst [.bl true, .bl true, .bl false, .bl false]) n9
    exact ⟨lk, l9, _, _, rfl, rfl, SqL.of (S9 _ _ hK5), SqL.of upd_same, rfl, rfl, q _ (S5.trans S9)⟩
end
end KX
set_option Elab.async false
set_option linter.all false
set_option maxRecDepth 100000
set_option maxHeartbeats 1000000
namespace KX
open PySem L2 Lin PySem.W
theorem eqR_true {K : PySem.W.Frag} {H : Hp} {n : Nat} {x y : V} {b : Bool} (h : EqR K H n x y b) (e : b = true) : EqR K H n x y true := e ▸ h
theorem cutV_drop (xs : List V) (k : Nat) (h : k ≤ xs.length) : cutV xs (some (k : Int)) none = xs.drop k := by
  unfold cutV
  rw [HT.sIx_none, HT.sIx_nat, Nat.min_eq_left h]
  exact List.take_of_length_le (by rw [List.length_drop]; exact Nat.le_refl _)
theorem all_true (n : Nat) : ((List.range n).all fun _ => true) = true := List.all_eq_true.mpr fun _ _ => rfl
theorem eq_tx {K : PySem.W.Frag} {H : Hp} {n : Nat} {a b : Addr} {ws : List W} (ha : SqL K H a (tx ws)) (hb : SqL K H b (tx ws)) : EqR K H (n + 1) (.ref a) (.ref b) true := by
  have fl : ∀ j, j < (tx ws).length → flatV ((tx ws).getD j .non) = true := fun j hj => by
    rw [tx_len] at hj
    rw [List.getD_eq_getElem?_getD, tx_get (List.getElem?_eq_getElem hj)]
    rfl
  exact eqR_true (EqR.lsts (n := n) (e := fun _ => true) ha hb rfl fun j hj => eqR_true (.flat (fl j hj) (fl j hj)) (eqV_refl (fl j hj))) (all_true _)
theorem getD_some {xs : List V} {j : Nat} {v : V} (h : xs[j]? = some v) : xs.getD j .non = v := by
  rw [List.getD_eq_getElem?_getD, h]
  rfl
theorem eq_wls {K : PySem.W.Frag} {H A B : Hp} {n : Nat} {a b : Addr} {us vs : List V} {wss : List (List W)} (ha : H a = some (.lst us)) (hb : H b = some (.lst vs)) (hu : Wls A H us wss) (hv : Wls B H vs wss) : EqR K H (n + 2) (.ref a) (.ref b) true := by
  have l1 := hu.len
  have l2 := hv.len
  refine eqR_true (EqR.lsts (n := n + 1) (e := fun _ => true) (SqL.of ha) (SqL.of hb) (by omega) fun j hj => ?_) (all_true _)
  obtain ⟨ws, e1, p, ep, _, hp⟩ := hu.get (List.getElem?_eq_getElem hj)
  obtain ⟨ws', e2, q, eq, _, hq⟩ := hv.get (List.getElem?_eq_getElem (show j < vs.length by omega))
  rw [e1] at e2
  cases e2
  rw [getD_some (by rw [List.getElem?_eq_getElem hj, ep]), getD_some (by rw [List.getElem?_eq_getElem (show j < vs.length by omega), eq])]
  exact eq_tx (SqL.of hp) (SqL.of hq)
theorem eq_bxs {K : PySem.W.Frag} {H : Hp} {n : Nat} {a b : Addr} {us : List V} {bs : List Q4} (ha : H a = some (.lst us)) (hb : H b = some (.lst us)) (hu : BxsAt H us bs) : EqR K H (n + 2) (.ref a) (.ref b) true := by
  refine eqR_true (EqR.lsts (n := n + 1) (e := fun _ => true) (SqL.of ha) (SqL.of hb) rfl fun j hj => ?_) (all_true _)
  obtain ⟨c, _, p, ep, hp⟩ := hu.get (List.getElem?_eq_getElem hj)
  rw [getD_some (by rw [List.getElem?_eq_getElem hj, ep])]
  refine eqR_true (EqR.tups (n := n) (e := fun _ => true) (SqT.of hp) (SqT.of hp) fun j hj _ => ?_) rfl
  have fl : flatV ((bq c).getD j .non) = true := by
    match j, hj with
    | 0, _ => rfl
    | 1, _ => rfl
    | 2, _ => rfl
    | 3, _ => rfl
  exact eqR_true (.flat fl fl) (eqV_refl fl)
theorem Wls.tail {H0 H : Hp} {v : V} {vs : List V} {b : List W} {bs : List (List W)} (h : Wls H0 H (v :: vs) (b :: bs)) : Wls H0 H vs bs := by
  cases h with
  | cons _ t => exact t
theorem Wls.upd {H0 H : Hp} {p : Addr} {o : HO} : ∀ {vs : List V} {bs : List (List W)}, Wls H0 H vs bs → V.ref p ∉ vs → Wls H0 (upd H p o) vs bs
  | _, _, .nil, _ => .nil
  | _, _, .cons ⟨q, e, n, hq⟩ t, z => .cons ⟨q, e, n, by rw [upd_ne (fun y => z (by rw [← y, e]; exact List.mem_cons_self)), hq]⟩ (Wls.upd t fun y => z (List.mem_cons_of_mem _ y))
theorem wds_len {rows : List W} {wide high : Nat} {b : Q4} (g : Grid rows wide high) : (wds rows b).length ≤ 500 := by
  obtain ⟨g1, g2, g3, g4, g5⟩ := g
  have fl := flat_len (B := 31) (f := fun r => str1 [] (cut1 b r)) (ls := cutB rows b) fun r hr => by
    have := str1_len (cut1 b r) []
    have := cut1_len r b
    have := g2 r (cutB_mem hr)
    omega
  have := cutB_len rows b
  have : 31 * (cutB rows b).length ≤ 31 * 12 := Nat.mul_le_mul_left 31 (by omega)
  exact Nat.le_trans fl (by omega)
def spLaw (K : PySem.W.Frag) : Sp := fun vs H Q _ => ∃ (a : Addr) (ns : List Int), vs = [.ref a] ∧ SqL K H a (ns.map V.int) ∧ ns.length ≤ 63 ∧ ∀ H', Q (.bl true) H'
section
variable {P : Program} {w : World} {K : PySem.W.Frag} {mg : Str → Option Value} {base : Heap}
theorem scLaw : FnScope ["script", "wide", "high", "rows", "boxes", "due", "box", "handed", "found", "words", "far", "left", "top", "right", "below", "beyond", "at"] ["script"] (defScope sLaw) := ⟨rfl, rfl, rfl, by decide +kernel, rfl, by decide +kernel, by decide +kernel⟩
theorem ok_law {f C fCe fRw fBo fWs fWi fRf : Addr} {fd dCe dRw dBo dWs dWi dRf : FuncData} (F : Fun K "law" "law" sLaw f fd) (tl : mg "len" = none) (tlist : mg "list" = none) (ti : mg "isinstance" = none) (tr : mg "range" = none)
    (Ce : Callee P w K mg base CX0 2 "_law_cell" fCe dCe ["script", "k"] (spCell K)) (Rw : Callee P w K mg base CX0 3 "_law_rows" fRw dRw ["script", "wide", "high"] (spRows K)) (Bo : Callee P w K mg base CX0 1 "_law_box" fBo dBo ["cell", "wide", "high"] spLbox)
    (Ws : Callee P w K mg base CX0 1 "_law_words" fWs dWs ["rows", "box"] spLws) (Wi : Callee P w K mg base (CXE P w) 3 "words_in" fWi dWi ["rows", "boxes"] (spWin C)) (Rf : Callee P w K mg base CX0 4 "_law_refused" fRf dRf ["rows", "boxes"] spRefused) :
    FnOk P w K mg base CX0 5 f fd ["script"] (spLaw K) := by
  refine F.ok scLaw (fun vs H Q E h => ?_) (fun cdv A outer s H vs Q E hr h => ?_)
  · obtain ⟨a, ns, rfl, _⟩ := h
    rfl
  · obtain ⟨a, ns, rfl, hS, h63, q⟩ := h
    refine ⟨_, (pss_cons (ps_set (i := 1) scLaw.nd rfl (Or.inr rfl) (pe_op op_add pe_int (pe_op op_mod (pe_call Ce.ok (hr.mono (show 2 ≤ 4 by decide)) rfl Ce.bound Ce.kp Ce.bd .nil pass0 (pa_cons (pv 0) (pa_cons pe_int pa_nil))) pe_int)))
      (pss_cons (ps_set (i := 2) scLaw.nd rfl (Or.inr rfl) (pe_op op_add pe_int (pe_op op_mod (pe_call Ce.ok (hr.mono (show 2 ≤ 4 by decide)) rfl Ce.bound Ce.kp Ce.bd .nil pass0 (pa_cons (pv 0) (pa_cons pe_int pa_nil))) pe_int)))
      (pss_cons (ps_set (i := 3) scLaw.nd rfl (Or.inr rfl) (pe_call Rw.ok (hr.mono (show 3 ≤ 4 by decide)) rfl Rw.bound Rw.kp Rw.bd .nil pass0 (pa_cons (pv 0) (pa_cons (pv 1) (pa_cons (pv 2) pa_nil)))))
      (pss_cons (ps_comp (i := 4) (Nc := ["k", "wide", "high", "script"]) (ix := [none, some 1, some 2, some 0]) scLaw.nd rfl (Or.inl rfl) rfl rfl (by exact (pi_range1 rfl tr (pa_cons (pe_op op_mod (pe_call Ce.ok (hr.mono (show 2 ≤ 4 by decide)) rfl Ce.bound Ce.kp Ce.bd .nil pass0 (pa_cons (pv 0) (pa_cons pe_int pa_nil))) pe_int) pa_nil))) (fun _ _ _ _ _ => (pg_name (i := 0) (by show (["k", "wide", "high", "script"] : List Str).Nodup; decide +kernel) rfl (Or.inl rfl))) (fun _ _ _ _ _ => pts_nil) (fun _ _ _ _ _ => (pe_call Bo.ok (hr.mono (show 1 ≤ 4 by decide)) rfl Bo.bound Bo.kp Bo.bd .nil pass0 (pa_cons (pe_call Ce.ok (hr.mono (show 2 ≤ 4 by decide)) rfl Ce.bound Ce.kp Ce.bd .nil pass0 (pa_cons (pv 3) (pa_cons (pe_op op_add pe_int (pv 0)) pa_nil))) (pa_cons (pv 1) (pa_cons (pv 2) pa_nil))))))
      (pss_cons (ps_comp (i := 5) (Nc := ["box", "rows"]) (ix := [none, some 3]) scLaw.nd rfl (Or.inl rfl) rfl rfl (by refine' pi_list ?zz; case zz => exact (pv 4)) (fun _ _ _ _ _ => (pg_name (i := 0) (by show (["box", "rows"] : List Str).Nodup; decide +kernel) rfl (Or.inl rfl))) (fun _ _ _ _ _ => pts_nil) (fun _ _ _ _ _ => (pe_call Ws.ok (hr.mono (show 1 ≤ 4 by decide)) rfl Ws.bound Ws.kp Ws.bd .nil pass0 (pa_cons (pv 1) (pa_cons (pv 0) pa_nil)))))
      (pss_cons (ps_set (i := 7) scLaw.nd rfl (Or.inl rfl) (pe_lst (pa_cons (pe_callTy call_list_of rfl tlist PyProof.Rows.boot_list (pa_cons (pv 3) pa_nil)) (pa_cons (pe_callTy call_list_of rfl tlist PyProof.Rows.boot_list (pa_cons (pv 4) pa_nil)) pa_nil))))
      (pss_cons (ps_set (i := 8) scLaw.nd rfl (Or.inl rfl) (pe_call Wi.ok (hr.mono (show 3 ≤ 4 by decide)) rfl Wi.bound Wi.kp Wi.bd .nil passE0 (pa_cons (pe_ix ix_list (pv 7) pe_int (fun _ _ => rfl)) (pa_cons (pe_ix ix_list (pv 7) pe_int (fun _ _ => rfl)) pa_nil))))
      (pss_cons (ps_if (PW.pt (pw_or (pt_not (pt_val (pe_callB call_isi (by rfl) ti PyProof.Rows.boot_isinstance (pa_cons (pv 8) (pa_cons (pe_tyn rfl tlist PyProof.Rows.boot_list) pa_nil))))) (pw_or (pt_cmpR (op_neR hr.units) (pv 8) (pv 5) (nomark _)) (pw_or1 (pt_cmpR (op_neR hr.units) (pv 7) (pe_lst (pa_cons (pv 3) (pa_cons (pv 4) pa_nil))) (nomark _))))))
      (pss_one (ps_ret pe_bl))
      pss_nil)
      (pss_cons (ps_for PassesOwn.never rfl (pi_list (pv 8)) (pg_name (i := 9) scLaw.nd rfl (Or.inl rfl))
      (pss_one (ps_if (pt_not (pt_val (pe_callB call_isi (by rfl) ti PyProof.Rows.boot_isinstance (pa_cons (pv 9) (pa_cons (pe_tyn rfl tlist PyProof.Rows.boot_list) pa_nil)))))
        (pss_one (ps_ret pe_bl))
        pss_nil)))
      (pss_cons (ps_if (pt_cmpR op_gt (pe_callB call_len_seq (by rfl) tl PySem.boot_len (pa_cons (pv 8) pa_nil)) pe_int (nomark _))
      (pss_cons (ps_expr (pe_bm PySem.F.plainAttrs_list PySem.F.slot_list_append PySem.F.type_list_append mt_append (pe_ix ix_list (pv 8) pe_int (fun _ _ => rfl)) (pa_cons pe_str pa_nil)))
        (pss_one (ps_if (pt_cmpR (op_neR hr.units) (pe_slice sl_list (pv 8) (po_some pe_int) po_none) (pe_slice sl_list (pv 5) (po_some pe_int) po_none) (nomark _))
        (pss_one (ps_ret pe_bl))
        pss_nil)))
      pss_nil)
      (pss_cons (ps_set (i := 10) scLaw.nd rfl (Or.inl rfl) (pe_op op_mod (pe_op op_fdiv (pe_call Ce.ok (hr.mono (show 2 ≤ 4 by decide)) rfl Ce.bound Ce.kp Ce.bd .nil pass0 (pa_cons (pv 0) (pa_cons pe_int pa_nil))) pe_int) pe_int))
      (pss_cons (ps_asg (pe_call Bo.ok (hr.mono (show 1 ≤ 4 by decide)) rfl Bo.bound Bo.kp Bo.bd .nil pass0 (pa_cons (pe_call Ce.ok (hr.mono (show 2 ≤ 4 by decide)) rfl Ce.bound Ce.kp Ce.bd .nil pass0 (pa_cons (pv 0) (pa_cons pe_int pa_nil))) (pa_cons (pv 1) (pa_cons (pv 2) pa_nil)))) (pg_tup rfl (pgs_cons (pg_name (i := 11) scLaw.nd rfl (Or.inl rfl)) (pgs_cons (pg_name (i := 12) scLaw.nd rfl (Or.inl rfl)) (pgs_cons (pg_name (i := 13) scLaw.nd rfl (Or.inl rfl)) (pgs_cons (pg_name (i := 14) scLaw.nd rfl (Or.inl rfl)) pgs_nil))))))
      (pss_cons (ps_set (i := 15) scLaw.nd rfl (Or.inl rfl) (pe_lst (pa_cons (pe_tup (pa_cons (pv 11) (pa_cons (pv 12) (pa_cons (pe_op op_add (pe_op op_add (pv 1) pe_int) (pv 10)) (pa_cons (pv 14) pa_nil))))) (pa_cons (pe_tup (pa_cons (pv 11) (pa_cons (pv 12) (pa_cons (pv 13) (pa_cons (pe_op op_add (pe_op op_add (pv 2) pe_int) (pv 10)) pa_nil))))) (pa_cons (pe_tup (pa_cons (pe_op op_sub (pe_un un_neg pe_int) (pv 10)) (pa_cons (pv 12) (pa_cons (pv 13) (pa_cons (pv 14) pa_nil))))) pa_nil)))))
      (pss_cons (ps_set (i := 15) scLaw.nd rfl (Or.inl rfl) (pe_op op_cat (pv 15) (pe_lst (pa_cons (pe_tup (pa_cons (pv 11) (pa_cons (pe_op op_sub (pe_un un_neg pe_int) (pv 10)) (pa_cons (pv 13) (pa_cons (pv 14) pa_nil))))) (pa_cons (pe_tup (pa_cons (pe_op op_add (pv 1) (pv 10)) (pa_cons (pv 12) (pa_cons (pe_op op_add (pe_op op_add (pv 1) (pv 10)) pe_int) (pa_cons (pv 14) pa_nil))))) pa_nil)))))
      (pss_cons (ps_set (i := 16) scLaw.nd rfl (Or.inl rfl) (pe_op op_mod (pv 10) (pe_op op_add (pe_callB call_len_seq (by rfl) tl PySem.boot_len (pa_cons (pv 4) pa_nil)) pe_int)))
      (pss_cons (ps_for PassesOwn.never rfl (pi_list (pv 15)) (pg_name (i := 6) scLaw.nd rfl (Or.inl rfl))
      (pss_one (ps_if (pt_not (pt_val (pe_call Rf.ok (hr.mono (show 4 ≤ 4 by decide)) rfl Rf.bound Rf.kp Rf.bd .nil pass0 (pa_cons (pv 3) (pa_cons (pe_op op_cat (pe_op op_cat (pe_slice sl_list (pv 4) po_none (po_some (pv 16))) (pe_lst (pa_cons (pv 6) pa_nil))) (pe_slice sl_list (pv 4) (po_some (pv 16)) po_none)) pa_nil)))))
        (pss_one (ps_ret pe_bl))
        pss_nil)))
      (pss_one (ps_ret (pe_and (pe_cmpR (op_eqR hr.units) (pe_call Wi.ok (hr.mono (show 3 ≤ 4 by decide)) rfl Wi.bound Wi.kp Wi.bd .nil passE0 (pa_cons (pv 3) (pa_cons (pe_lst pa_nil) pa_nil))) (pe_lst pa_nil) (nomark _)) (pe_one (pe_cmpR (op_eqR hr.units) (pe_call Wi.ok (hr.mono (show 3 ≤ 4 by decide)) rfl Wi.bound Wi.kp Wi.bd .nil passE0 (pa_cons (pv 3) (pa_cons (pv 4) pa_nil))) (pv 5) (nomark _)))))))))))))))))))))), ?_⟩
    refine ⟨_, rfl, a, ns, 0, rfl, hS, by decide, by decide, fun c0 => ⟨_, _, rfl, rfl, (by show (0 : Int) < 30; decide), _, _, rfl, rfl, ?_⟩⟩
    refine ⟨_, rfl, a, ns, 1, rfl, hS, by decide, by decide, fun c1 => ⟨_, _, rfl, rfl, (by show (0 : Int) < 12; decide), _, _, rfl, rfl, ?_⟩⟩
    obtain ⟨wide, ew, w1, w2⟩ : ∃ wide : Nat, 1 + c0 % 30 = (wide : Int) ∧ 1 ≤ wide ∧ wide ≤ 30 := ⟨(1 + c0 % 30).toNat, by omega, by omega, by omega⟩
    obtain ⟨high, eh, h1, h2⟩ : ∃ high : Nat, 1 + c1 % 12 = (high : Int) ∧ 1 ≤ high ∧ high ≤ 12 := ⟨(1 + c1 % 12).toNat, by omega, by omega, by omega⟩
    dsimp only
    rw [ew, eh]
    clear ew eh
    refine ⟨_, rfl, _, rfl, _, rfl, a, ns, wide, high, rfl, hS, w1, w2, h1, h2, fun lr rows H1 S1 hlr hG => ?_⟩
    refine ⟨_, rfl, a, ns, 2, rfl, S1.seq hS, by decide, by decide, fun c2 => ⟨_, _, rfl, rfl, (by show (0 : Int) < 25; decide), ?_⟩⟩
    obtain ⟨N, eN, hN⟩ : ∃ N : Nat, c2 % 25 = (N : Int) ∧ N < 25 := ⟨(c2 % 25).toNat, by omega, by omega⟩
    dsimp only
    rw [eN]
    clear eN
    refine ⟨_, rfl, by omega, by omega, cmp_range (lo := 0) (n := N) (fun i ys σ H' => ∃ bs : List Q4, BxsAt H' ys bs ∧ bs.length = i ∧ (∀ b ∈ bs, b.t < b.b ∧ b.l < b.r ∧ prn b wide high = true) ∧ Same H1 H' ∧ ∃ o, σ = [o, some (.int wide), some (.int high), some (.ref a)])
      ⟨[], .nil, rfl, fun b hb => (List.not_mem_nil hb).elim, Same.refl _, none, rfl⟩ (fun i ys σ H' hi ⟨bs, e, l, _⟩ => by rw [e.len, l]; exact Nat.le_trans (show i ≤ 1000 by omega) (by decide)) ?_ ?_⟩
    case refine_2 =>
      rintro i ys σ H' hi ⟨bs, hB, l, hb, S, o, rfl⟩
      rw [show (0 : Int) + (i : Int) = (i : Int) from Int.zero_add _]
      dsimp only [gName, tYes]
      refine iteT ?_
      refine ⟨_, rfl, _, rfl, _, _, rfl, rfl, a, ns, _, rfl, (S1.trans S).seq hS, by omega, by omega, fun cell => ?_⟩
      refine ⟨_, rfl, _, rfl, cell, wide, high, rfl, w1, w2, h1, h2, fun p b H2 S2 hp b1 b2 b3 => ?_⟩
      refine ⟨bs ++ [b], (hB.same S2).app (.cons ⟨p, rfl, hp⟩ .nil), by rw [List.length_append, l]; rfl, fun z hz => ?_, S.trans S2, _, rfl⟩
      rcases List.mem_append.mp hz with y | y
      · exact hb z y
      · rw [List.mem_singleton.mp y]
        exact ⟨b1, b2, b3⟩
    rintro bvs σ H2 ⟨bs, hB, lb, hb, S2, _⟩ l nl
    have S3 := S2.trans (same_new (o := .lst bvs) nl)
    have hl : (upd H2 l (.lst bvs)) l = some (.lst bvs) := upd_same
    have hB3 := hB.same (same_new (o := .lst bvs) nl)
    have hlr3 := S3 _ _ hlr
    have S03 := S1.trans S3
    generalize upd H2 l (.lst bvs) = H3 at S3 hl hB3 hlr3 S03
    clear S2 S1 hlr hB nl S3
    have lv := hB3.len
    -- due
    try dsimp only
    refine ⟨_, rfl, l, rfl, ⟨_, SqL.of hl⟩, cmp_list (K := K) (a := l) (xs := bvs) (fun i ys σ H' => Wls H3 H' ys ((bs.take i).map (wds rows)) ∧ Same H3 H' ∧ ∃ o, σ = [o, some (.ref lr)]) ⟨.nil, Same.refl _, none, rfl⟩
      (fun i ys σ H' hi ⟨e, S, _⟩ => ⟨by rw [e.len, List.length_map, List.length_take]; exact Nat.le_trans (show _ ≤ 1000 by omega) (by decide), SqL.of (S _ _ hl)⟩) ?_ ?_⟩
    case refine_2 =>
      rintro i x ys σ H' hx ⟨hw, S, o, rfl⟩
      obtain ⟨b, hbb, r, rfl, hr⟩ := hB3.get hx
      obtain ⟨hil, ev⟩ := List.getElem?_eq_some_iff.mp hbb
      obtain ⟨b1, b2, b3⟩ := hb b (List.mem_of_getElem? hbb)
      dsimp only [gName, tYes]
      refine iteT ?_
      refine ⟨_, rfl, _, rfl, lr, r, rows, wide, high, b, rfl, S _ _ hlr3, hG, S _ _ hr, b1, b2, b3, fun l4 H4 S4 nl4 hl4 => ⟨?_, S.trans S4, _, rfl⟩⟩
      rw [← List.take_append_getElem hil, ev, List.map_append]
      exact (hw.same S4).app (.cons ⟨l4, rfl, S.free nl4, hl4⟩ .nil)
    rintro dvs σ H4 ⟨hD, S4, _⟩ d nd
    rw [lv, List.take_length] at hD
    have S5 := S4.trans (same_new (o := .lst dvs) nd)
    have hd : (upd H4 d (.lst dvs)) d = some (.lst dvs) := upd_same
    have hD5 := hD.same (same_new (o := .lst dvs) nd)
    have hlr5 := S5 _ _ hlr3
    have hl5 := S5 _ _ hl
    have hB5 := hB3.same S5
    have S05 := S03.trans S5
    generalize upd H4 d (.lst dvs) = H5 at S5 hd hD5 hlr5 hl5 hB5 S05
    clear S4 hD nd S03 hlr3 hl hB3
    -- handed
    try dsimp only
    refine seq_lst ?_
    refine ⟨_, rfl, lr, _, rfl, .inl (SqL.of hlr5), fun r2 nr2 => ?_⟩
    have S6 := same_new (o := .lst (tx rows)) nr2
    have hr2 : (upd H5 r2 (.lst (tx rows))) r2 = some (.lst (tx rows)) := upd_same
    generalize upd H5 r2 (.lst (tx rows)) = H6 at S6 hr2
    refine ⟨_, rfl, l, _, rfl, .inl (SqL.of (S6 _ _ hl5)), fun b2 nb2 => ?_⟩
    have S7 := same_new (o := .lst bvs) nb2
    have hb2 : (upd H6 b2 (.lst bvs)) b2 = some (.lst bvs) := upd_same
    have hr27 := S7 _ _ hr2
    have S67 := S6.trans S7
    generalize upd H6 b2 (.lst bvs) = H7 at S67 hb2 hr27 S7
    refine ⟨by show 2 ≤ sizeLine; decide, fun h0 nh0 => ?_⟩
    have S8 := S67.trans (same_new (o := .lst [.ref r2, .ref b2]) nh0)
    have hh0 : (upd H7 h0 (.lst [.ref r2, .ref b2])) h0 = some (.lst [.ref r2, .ref b2]) := upd_same
    have hr28 := same_new (o := .lst [.ref r2, .ref b2]) nh0 _ _ hr27
    have hb28 := same_new (o := .lst [.ref r2, .ref b2]) nh0 _ _ hb2
    generalize upd H7 h0 (.lst [.ref r2, .ref b2]) = H8 at S8 hh0 hr28 hb28
    have hlr8 := S8 _ _ hlr5
    have hl8 := S8 _ _ hl5
    have hB8 := hB5.same S8
    have hd8 := S8 _ _ hd
    have hD8 := hD5.same S8
    have S08 := S05.trans S8
    clear S6 hr2 S7 S67 hb2 hr27 nh0 nr2 nb2 S8 hlr5 hl5 hB5 hd hD5 S05 S5
    -- found
    refine ⟨_, rfl, h0, _, _, _, rfl, rfl, SqL.of hh0, rfl, _, rfl, h0, _, _, _, rfl, rfl, SqL.of hh0, rfl, ?_⟩
    refine ⟨r2, b2, rows, wide, high, bvs, bs, rfl, hr28, hG, hb28, hB8, (fun b hz => (hb b hz).1), by omega, .inl ⟨fun b hz => (hb b hz).2, fun fl us H9 S9 nfl hfl hU ndU nin => ?_⟩⟩
    refine ⟨_, rfl, _, _, _, _, rfl, rfl, .of (.lst hfl), rfl, _, rfl, iteF ?_⟩
    refine ⟨_, rfl, _, rfl, fl, d, 2, true, rfl, rfl, eq_wls hfl (S9 _ _ hd8) hU (hD8.same S9), by decide, false, rfl, iteF ?_⟩
    refine ⟨_, rfl, _, rfl, _, rfl, by show 2 ≤ sizeLine; decide, fun p1 np1 => ?_⟩
    have S10 := S9.trans (same_new (o := .lst [.ref lr, .ref l]) np1)
    have hp1 : (upd H9 p1 (.lst [.ref lr, .ref l])) p1 = some (.lst [.ref lr, .ref l]) := upd_same
    have hfl10 := same_new (o := .lst [.ref lr, .ref l]) np1 _ _ hfl
    have hU10 := hU.same (same_new (o := .lst [.ref lr, .ref l]) np1)
    generalize upd H9 p1 (.lst [.ref lr, .ref l]) = H10 at S10 hp1 hfl10 hU10
    have eqh : EqR K H10 3 (.ref h0) (.ref p1) true := eqR_true (EqR.lsts (n := 2) (e := fun _ => true) (SqL.of (S10 _ _ hh0)) (SqL.of hp1) rfl fun j hj => by
      match j, hj with
      | 0, _ => exact eq_tx (SqL.of (S10 _ _ hr28)) (SqL.of (S10 _ _ hlr8))
      | 1, _ => exact eq_bxs (S10 _ _ hb28) (S10 _ _ hl8) (hB8.same S10)) (all_true _)
    refine ⟨h0, p1, 3, true, rfl, rfl, eqh, by decide, false, rfl, iteF ?_⟩
    refine run_next ?_
    dsimp only
    clear hU hfl S9 np1 eqh
    have lu := hU10.len
    rw [List.length_map] at lu
    -- each a list
    refine run_seq ⟨_, rfl, fl, rfl, ⟨_, SqL.of hfl10⟩, ?_⟩
    refine for_list (K := K) (a := fl) (xs := us) (fun i σ H' => ∃ o9 : Option V, σ = [some (.ref a), some (.int wide), some (.int high), some (.ref lr), some (.ref l), some (.ref d), none, some (.ref h0), some (.ref fl), o9, none, none, none, none, none, none, none] ∧ H' = H10) ⟨none, rfl, rfl⟩ (fun i σ H' _ ⟨_, _, e⟩ => by rw [e]; exact SqL.of hfl10) ?_ ?_
    · rintro i x σ H' hi ⟨o9, rfl, rfl⟩
      obtain ⟨b, hbb, r, rfl, _, hr⟩ := hU10.get hi
      refine run_gname ?_
      exact ⟨_, rfl, _, _, _, _, rfl, rfl, .of (.lst hr), rfl, _, rfl, iteF ⟨_, rfl, rfl⟩⟩
    rintro σ H' ⟨o9, rfl, rfl⟩
    dsimp only
    refine seq_key (R := fun σ H' => σ = [some (.ref a), some (.int wide), some (.int high), some (.ref lr), some (.ref l), some (.ref d), none, some (.ref h0), some (.ref fl), o9, none, none, none, none, none, none, none] ∧ Same H8 H') ?_ (fun k => ?_)
    case refine_2 =>
      refine tst_if (p := (1 : Int) < (us.length : Int)) (tst_of (evl_I0 (evl_lenL (evl_var rfl) (SqL.of hfl10)) evl_c)) (fun c => ?_) (fun c => ?_)
      · obtain ⟨u, us', rfl⟩ : ∃ u us', us = u :: us' := by
          cases us with
          | nil => simp at c
          | cons u us' => exact ⟨u, us', rfl⟩
        obtain ⟨b, bs', rfl⟩ : ∃ b bs', bs = b :: bs' := by
          cases bs with
          | nil => simp at lu
          | cons b bs' => exact ⟨b, bs', rfl⟩
        obtain ⟨dv, dvs', rfl⟩ : ∃ dv dvs', dvs = dv :: dvs' := by
          cases dvs with
          | nil => have := hD8.len; simp at this
          | cons b bs' => exact ⟨b, bs', rfl⟩
        obtain ⟨ws, e1, p, rfl, np, hp⟩ := hU10.get (i := 0) rfl
        have e1 : wds rows b = ws := by simpa using e1
        subst e1
        obtain ⟨z1, z2⟩ := List.nodup_cons.mp ndU
        refine ⟨_, rfl, fl, _, 0, .ref p, rfl, rfl, SqL.of hfl10, atI_nat (j := 0) rfl, .inl ⟨rfl, _, SqL.of hp⟩, p, _, _, rfl, rfl, hp, ?_, ?_⟩
        · rw [tx_len]
          exact Nat.lt_of_le_of_lt (wds_len hG) (by decide)
        have np8 : H8 p = none := np
        have S11 : Same H8 (upd H' p (.lst (tx (wds rows b) ++ [V.str "a"]))) := same_upd S10 np8
        have hT := (Wls.tail hU10).upd (o := .lst (tx (wds rows b) ++ [V.str "a"])) z1
        have hfl11 := (upd_ne (o := .lst (tx (wds rows b) ++ [V.str "a"])) (fun z => nin (by rw [z]; exact List.mem_cons_self))).trans hfl10
        generalize upd H' p (.lst (tx (wds rows b) ++ [V.str "a"])) = H11 at S11 hT hfl11
        refine ⟨_, rfl, _, rfl, fl, _, rfl, SqL.of hfl11, fun q1 nq1 => ?_⟩
        have ec1 : cutV (V.ref p :: us') (some 1) none = us' := by
          have := cutV_drop (V.ref p :: us') 1 (by simp)
          exact this
        rw [ec1]
        have S12 := same_new (o := .lst us') nq1
        have hq1 : (upd H11 q1 (.lst us')) q1 = some (.lst us') := upd_same
        generalize upd H11 q1 (.lst us') = H12 at S12 hq1
        refine ⟨_, rfl, _, rfl, d, _, rfl, SqL.of (S12 _ _ (S11 _ _ hd8)), fun q2 nq2 => ?_⟩
        have ec2 : cutV (dv :: dvs') (some 1) none = dvs' := by
          have := cutV_drop (dv :: dvs') 1 (by simp)
          exact this
        rw [ec2]
        have S13 := same_new (o := .lst dvs') nq2
        have hq2 : (upd H12 q2 (.lst dvs')) q2 = some (.lst dvs') := upd_same
        generalize upd H12 q2 (.lst dvs') = H13 at S13 hq2
        refine ⟨q1, q2, 2, true, rfl, rfl, eq_wls (S13 _ _ hq1) hq2 ((hT.same S12).same S13) ((Wls.tail (hD8.same S11)).same (S12.trans S13)), by decide, false, rfl, iteF ?_⟩
        exact k _ _ ⟨rfl, S11.trans (S12.trans S13)⟩
      · exact k _ _ ⟨rfl, S10⟩
    clear hfl10 hU10 S10 hp1
    rintro σ H14 ⟨rfl, S14⟩
    -- far
    refine ⟨_, rfl, a, ns, 2, rfl, (S08.trans S14).seq hS, by decide, by decide, fun c3 => ⟨_, _, rfl, rfl, ⟨by decide, by decide⟩, _, _, rfl, rfl, (by show (0 : Int) < 400; decide), ?_⟩⟩
    obtain ⟨far, ef, f1⟩ : ∃ far : Int, c3 / 25 % 400 = far ∧ 0 ≤ far := ⟨_, rfl, by omega⟩
    dsimp only
    rw [ef]
    clear ef
    refine ⟨_, rfl, a, ns, 2, rfl, (S08.trans S14).seq hS, by decide, by decide, fun c4 => ?_⟩
    refine ⟨_, rfl, _, rfl, c4, wide, high, rfl, w1, w2, h1, h2, fun pb b H15 S15 hpb b1 b2' b3 => ?_⟩
    have S15 := S14.trans S15
    refine ⟨pb, _, rfl, SqT.of hpb, rfl, _, _, rfl, _, _, rfl, _, _, rfl, _, _, rfl, rfl, ?_⟩
    have pr := of_decide_eq_true b3
    dsimp only [gName]
    -- beyond
    refine seq_lst ?_
    refine cons_tup4 (v1 := .int b.l) (v2 := .int b.t) (v3 := .int (wide + 1 + far)) (v4 := .int b.b) (evl_var rfl) (evl_var rfl) (evl_I0 (evl_I0 (evl_var rfl) evl_c) (evl_var rfl)) (evl_var rfl) fun q1 n1 => ?_
    have T1 := same_new (o := .tup (bq ⟨b.l, b.t, wide + 1 + far, b.b⟩)) n1
    have x1 : (upd H15 q1 (.tup (bq ⟨b.l, b.t, wide + 1 + far, b.b⟩))) q1 = some (.tup (bq ⟨b.l, b.t, wide + 1 + far, b.b⟩)) := upd_same
    change tCons _ _ _ (upd H15 q1 (.tup (bq ⟨b.l, b.t, wide + 1 + far, b.b⟩))) _
    generalize upd H15 q1 (.tup (bq ⟨b.l, b.t, wide + 1 + far, b.b⟩)) = G1 at T1 x1
    refine cons_tup4 (v1 := .int b.l) (v2 := .int b.t) (v3 := .int b.r) (v4 := .int (high + 1 + far)) (evl_var rfl) (evl_var rfl) (evl_var rfl) (evl_I0 (evl_I0 (evl_var rfl) evl_c) (evl_var rfl)) fun q2 n2 => ?_
    have T2 := same_new (o := .tup (bq ⟨b.l, b.t, b.r, high + 1 + far⟩)) n2
    have x2 : (upd G1 q2 (.tup (bq ⟨b.l, b.t, b.r, high + 1 + far⟩))) q2 = some (.tup (bq ⟨b.l, b.t, b.r, high + 1 + far⟩)) := upd_same
    change tCons _ _ _ (upd G1 q2 (.tup (bq ⟨b.l, b.t, b.r, high + 1 + far⟩))) _
    generalize upd G1 q2 (.tup (bq ⟨b.l, b.t, b.r, high + 1 + far⟩)) = G2 at T2 x2
    refine cons_tup4 (v1 := .int (-1 - far)) (v2 := .int b.t) (v3 := .int b.r) (v4 := .int b.b) (evl_I0 evl_neg1 (evl_var rfl)) (evl_var rfl) (evl_var rfl) (evl_var rfl) fun q3 n3 => ?_
    have T3 := same_new (o := .tup (bq ⟨-1 - far, b.t, b.r, b.b⟩)) n3
    have x3 : (upd G2 q3 (.tup (bq ⟨-1 - far, b.t, b.r, b.b⟩))) q3 = some (.tup (bq ⟨-1 - far, b.t, b.r, b.b⟩)) := upd_same
    change tNil _ (upd G2 q3 (.tup (bq ⟨-1 - far, b.t, b.r, b.b⟩))) _
    generalize upd G2 q3 (.tup (bq ⟨-1 - far, b.t, b.r, b.b⟩)) = G3 at T3 x3
    refine ⟨by show 3 ≤ sizeLine; decide, fun y1 m1 => ?_⟩
    have T4 := same_new (o := .lst [.ref q1, .ref q2, .ref q3]) m1
    have hy1 : (upd G3 y1 (.lst [.ref q1, .ref q2, .ref q3])) y1 = some (.lst [.ref q1, .ref q2, .ref q3]) := upd_same
    generalize upd G3 y1 (.lst [.ref q1, .ref q2, .ref q3]) = G4 at T4 hy1
    refine ⟨_, rfl, ?_⟩
    refine cons_tup4 (v1 := .int b.l) (v2 := .int (-1 - far)) (v3 := .int b.r) (v4 := .int b.b) (evl_var rfl) (evl_I0 evl_neg1 (evl_var rfl)) (evl_var rfl) (evl_var rfl) fun q4 n4 => ?_
    have T5 := same_new (o := .tup (bq ⟨b.l, -1 - far, b.r, b.b⟩)) n4
    have x4 : (upd G4 q4 (.tup (bq ⟨b.l, -1 - far, b.r, b.b⟩))) q4 = some (.tup (bq ⟨b.l, -1 - far, b.r, b.b⟩)) := upd_same
    change tCons _ _ _ (upd G4 q4 (.tup (bq ⟨b.l, -1 - far, b.r, b.b⟩))) _
    generalize upd G4 q4 (.tup (bq ⟨b.l, -1 - far, b.r, b.b⟩)) = G5 at T5 x4
    refine cons_tup4 (v1 := .int (wide + far)) (v2 := .int b.t) (v3 := .int (wide + far + 1)) (v4 := .int b.b) (evl_I0 (evl_var rfl) (evl_var rfl)) (evl_var rfl) (evl_I0 (evl_I0 (evl_var rfl) (evl_var rfl)) evl_c) (evl_var rfl) fun q5 n5 => ?_
    have T6 := same_new (o := .tup (bq ⟨wide + far, b.t, wide + far + 1, b.b⟩)) n5
    have x5 : (upd G5 q5 (.tup (bq ⟨wide + far, b.t, wide + far + 1, b.b⟩))) q5 = some (.tup (bq ⟨wide + far, b.t, wide + far + 1, b.b⟩)) := upd_same
    change tNil _ (upd G5 q5 (.tup (bq ⟨wide + far, b.t, wide + far + 1, b.b⟩))) _
    generalize upd G5 q5 (.tup (bq ⟨wide + far, b.t, wide + far + 1, b.b⟩)) = G6 at T6 x5
    refine ⟨by show 2 ≤ sizeLine; decide, fun y2 m2 => ?_⟩
    have T7 := same_new (o := .lst [.ref q4, .ref q5]) m2
    have hy2 : (upd G6 y2 (.lst [.ref q4, .ref q5])) y2 = some (.lst [.ref q4, .ref q5]) := upd_same
    generalize upd G6 y2 (.lst [.ref q4, .ref q5]) = G7 at T7 hy2
    refine ⟨y1, y2, _, _, rfl, rfl, T7 _ _ (T6 _ _ (T5 _ _ hy1)), hy2, by show 5 ≤ sizeLine; decide, fun y3 m3 => ?_⟩
    have T8 := same_new (o := .lst ([.ref q1, .ref q2, .ref q3] ++ [.ref q4, .ref q5])) m3
    have hy3 : (upd G7 y3 (.lst ([.ref q1, .ref q2, .ref q3] ++ [.ref q4, .ref q5]))) y3 = some (.lst [.ref q1, .ref q2, .ref q3, .ref q4, .ref q5]) := upd_same
    generalize upd G7 y3 (.lst ([.ref q1, .ref q2, .ref q3] ++ [.ref q4, .ref q5])) = G8 at T8 hy3
    have U7 := T7.trans T8
    have U6 := T6.trans U7
    have U5 := T5.trans U6
    have U4 := T4.trans U5
    have U3 := T3.trans U4
    have U2 := T2.trans U3
    have U1 := T1.trans U2
    have S16 := S15.trans U1
    obtain ⟨qs, eqs⟩ : ∃ qs : List Q4, qs = [⟨b.l, b.t, wide + 1 + far, b.b⟩, ⟨b.l, b.t, b.r, high + 1 + far⟩, ⟨-1 - far, b.t, b.r, b.b⟩, ⟨b.l, -1 - far, b.r, b.b⟩, ⟨wide + far, b.t, wide + far + 1, b.b⟩] := ⟨_, rfl⟩
    have hQ : BxsAt G8 [.ref q1, .ref q2, .ref q3, .ref q4, .ref q5] qs := by
      rw [eqs]
      exact .cons ⟨q1, rfl, U2 _ _ x1⟩ (.cons ⟨q2, rfl, U3 _ _ x2⟩ (.cons ⟨q3, rfl, U4 _ _ x3⟩ (.cons ⟨q4, rfl, U6 _ _ x4⟩ (.cons ⟨q5, rfl, U7 _ _ x5⟩ .nil))))
    have hno : ∀ z ∈ qs, z.t < z.b ∧ prn z wide high = false := by
      intro z hz
      rw [eqs] at hz
      unfold prn
      simp only [List.mem_cons, List.not_mem_nil, or_false] at hz
      rcases hz with e | e | e | e | e <;> subst e <;> refine ⟨?_, decide_eq_false ?_⟩ <;> dsimp only <;> omega
    clear eqs U1 U2 U3 U4 U5 U6 U7 T1 T2 T3 T4 T5 T6 T7 T8 x1 x2 x3 x4 x5 n1 n2 n3 n4 n5 m1 m2 m3 hy1 hy2 S15
    generalize [V.ref q1, .ref q2, .ref q3, .ref q4, .ref q5] = qvs at hQ hy3
    try dsimp only
    have hl16 := S16 _ _ hl8
    refine ⟨_, rfl, _, rfl, l, _, rfl, .inl (SqL.of hl16), _, _, rfl, rfl, _, _, rfl, rfl, (by show (0 : Int) < (bvs.length : Int) + 1; omega), ?_⟩
    have a0 := Int.emod_nonneg far (show (bvs.length : Int) + 1 ≠ 0 by omega)
    have a1 := Int.emod_lt_of_pos far (show (0 : Int) < (bvs.length : Int) + 1 by omega)
    obtain ⟨at_, ea, al⟩ : ∃ at_ : Nat, far % ((bvs.length : Int) + 1) = (at_ : Int) ∧ at_ ≤ bvs.length := ⟨(far % ((bvs.length : Int) + 1)).toNat, by omega, by omega⟩
    dsimp only
    rw [ea]
    clear ea a0 a1
    have ec1 : cutV bvs none (some (at_ : Int)) = bvs.take at_ := by
      unfold cutV
      rw [HT.sIx_none, HT.sIx_nat, Nat.min_eq_left al]
      rfl
    have ec2 := cutV_drop bvs at_ al
    refine run_seq ⟨_, rfl, y3, rfl, ⟨_, SqL.of hy3⟩, ?_⟩
    refine for_list (K := K) (a := y3) (xs := qvs) (fun i σ H' => ∃ o6 : Option V, σ = [some (.ref a), some (.int wide), some (.int high), some (.ref lr), some (.ref l), some (.ref d), o6, some (.ref h0), some (.ref fl), o9, some (.int far), some (.int b.l), some (.int b.t), some (.int b.r), some (.int b.b), some (.ref y3), some (.int (at_ : Int))] ∧ Same G8 H') ⟨none, rfl, Same.refl _⟩ (fun i σ H' _ ⟨_, _, S⟩ => SqL.of (S _ _ hy3)) ?_ ?_
    · rintro i x σ H' hi ⟨o6, rfl, S⟩
      obtain ⟨z, hzz, r, rfl, hr⟩ := hQ.get hi
      obtain ⟨zt, zn⟩ := hno z (List.mem_of_getElem? hzz)
      refine run_gname ?_
      have hlH := S _ _ hl16
      refine ⟨_, rfl, _, rfl, _, rfl, _, rfl, l, _, rfl, SqL.of hlH, fun e1 ne1 => ?_⟩
      rw [ec1]
      have R1 := same_new (o := .lst (bvs.take at_)) ne1
      have he1 : (upd H' e1 (.lst (bvs.take at_))) e1 = some (.lst (bvs.take at_)) := upd_same
      generalize upd H' e1 (.lst (bvs.take at_)) = J1 at R1 he1
      refine ⟨_, rfl, by show 1 ≤ sizeLine; decide, fun e2 ne2 => ?_⟩
      have R2 := same_new (o := .lst [.ref r]) ne2
      have he2 : (upd J1 e2 (.lst [.ref r])) e2 = some (.lst [.ref r]) := upd_same
      generalize upd J1 e2 (.lst [.ref r]) = J2 at R2 he2
      refine ⟨e1, e2, _, _, rfl, rfl, R2 _ _ he1, he2, ?_, fun e3 ne3 => ?_⟩
      · rw [List.length_take, List.length_singleton]
        exact Nat.le_trans (show _ ≤ 1000 by omega) (by decide)
      have R3 := same_new (o := .lst (bvs.take at_ ++ [.ref r])) ne3
      have he3 : (upd J2 e3 (.lst (bvs.take at_ ++ [.ref r]))) e3 = some (.lst (bvs.take at_ ++ [.ref r])) := upd_same
      generalize upd J2 e3 (.lst (bvs.take at_ ++ [.ref r])) = J3 at R3 he3
      have R13 := R1.trans (R2.trans R3)
      refine ⟨_, rfl, _, rfl, _, rfl, l, _, rfl, SqL.of (R13 _ _ hlH), fun e4 ne4 => ?_⟩
      rw [ec2]
      have R4 := same_new (o := .lst (bvs.drop at_)) ne4
      have he4 : (upd J3 e4 (.lst (bvs.drop at_))) e4 = some (.lst (bvs.drop at_)) := upd_same
      generalize upd J3 e4 (.lst (bvs.drop at_)) = J4 at R4 he4
      refine ⟨e3, e4, _, _, rfl, rfl, R4 _ _ he3, he4, ?_, fun e5 ne5 => ?_⟩
      · rw [List.length_append, List.length_take, List.length_drop, List.length_singleton]
        exact Nat.le_trans (show _ ≤ 1000 by omega) (by decide)
      have R5 := R13.trans (R4.trans (same_new (o := .lst (bvs.take at_ ++ [.ref r] ++ bvs.drop at_)) ne5))
      have he5 : (upd J4 e5 (.lst (bvs.take at_ ++ [.ref r] ++ bvs.drop at_))) e5 = some (.lst (bvs.take at_ ++ [.ref r] ++ bvs.drop at_)) := upd_same
      generalize upd J4 e5 (.lst (bvs.take at_ ++ [.ref r] ++ bvs.drop at_)) = J5 at R5 he5
      have SJ := S.trans R5
      have hB' := hB8.same (S16.trans SJ)
      refine ⟨lr, e5, rows, wide, high, _, bs.take at_ ++ [z] ++ bs.drop at_, rfl, (S16.trans SJ) _ _ hlr8, hG, he5, ((hB'.take at_).app (.cons ⟨r, rfl, SJ _ _ hr⟩ .nil)).app (hB'.drop at_), fun y hy => ?_, ?_, ⟨z, by simp, zn⟩, fun H17 S17 => ?_⟩
      · rcases List.mem_append.mp hy with y1 | y1
        · rcases List.mem_append.mp y1 with y2 | y2
          · exact (hb y (List.mem_of_mem_take y2)).1
          · rw [List.mem_singleton.mp y2]
            exact zt
        · exact (hb y (List.mem_of_mem_drop y1)).1
      · rw [List.length_append, List.length_append, List.length_take, List.length_drop, List.length_singleton]
        omega
      exact ⟨_, rfl, iteF ⟨_, rfl, SJ.trans S17⟩⟩
    · rintro σ H' ⟨o6, rfl, S⟩
      have SH := S16.trans S
      refine ⟨_, rfl, by show 0 ≤ sizeLine; decide, fun e1 ne1 => ?_⟩
      have R1 := SH.trans (same_new (o := .lst []) ne1)
      have he1 : (upd H' e1 (.lst [])) e1 = some (.lst []) := upd_same
      generalize upd H' e1 (.lst []) = J1 at R1 he1
      refine ⟨lr, e1, rows, wide, high, [], [], rfl, R1 _ _ hlr8, hG, he1, .nil, (fun b hz => (List.not_mem_nil hz).elim), by decide, .inl ⟨(fun b hz => (List.not_mem_nil hz).elim), fun g gv J2 R2 _ hg hgw _ _ => ?_⟩⟩
      have eg : gv = [] := List.length_eq_zero_iff.mp hgw.len
      subst eg
      refine ⟨by show 0 ≤ sizeLine; decide, fun e2 ne2 => ?_⟩
      have R3 := R1.trans (R2.trans (same_new (o := .lst []) ne2))
      have he2 : (upd J2 e2 (.lst [])) e2 = some (.lst []) := upd_same
      have hg3 := same_new (o := .lst []) ne2 _ _ hg
      generalize upd J2 e2 (.lst []) = J3 at R3 he2 hg3
      refine ⟨g, e2, 1, true, rfl, rfl, eq_tx (ws := []) (SqL.of hg3) (SqL.of he2), by decide, true, rfl, iteT ?_⟩
      refine ⟨_, rfl, _, rfl, lr, l, rows, wide, high, bvs, bs, rfl, R3 _ _ hlr8, hG, R3 _ _ hl8, hB8.same R3, (fun b hz => (hb b hz).1), by omega, .inl ⟨fun b hz => (hb b hz).2, fun g2 gv2 J4 R4 _ hg2 hgw2 _ _ => ?_⟩⟩
      exact ⟨_, rfl, g2, d, 2, true, rfl, rfl, eq_wls hg2 (R4 _ _ (R3 _ _ hd8)) hgw2 (hD8.same (R3.trans R4)), by decide, q _⟩
end
end KX
set_option Elab.async false
set_option linter.all false
set_option maxRecDepth 100000
namespace L2
open PySem PySem.Spec PyProof.Rows
end L2
set_option Elab.async false
set_option linter.all false
set_option maxRecDepth 100000
set_option maxHeartbeats 4000000
namespace KX
open PySem L2
theorem all_mk {l : PySem.W.OpenLaw} {w : World} {K : PySem.W.Frag} {h : Heap} {mg : Str → Option Value} {fa  f0 f1 f2 f3 f4 f5 f6 f7 f8 f9 f10 C0 C1 C2 C3 C4 C5 C6 C7 C8 C9 : Addr} (X : K.In h) (G : h.Ns mainGlobals mg) (hfa : mg "law" = some (.ref fa)) 
    {od0 od1 od2 od3 od4 od5 od6 od7 od8 od9 od10 an0 an1 an2 an3 an4 an5 an6 an7 an8 an9 an10 : Option Addr} {sl0 sl1 sl2 sl3 sl4 sl5 sl6 sl7 sl8 sl9 sl10 : Array (Option Value)} {oc0 kV0 dc0 pm0 cd0 ct0 oc1 kV1 dc1 pm1 cd1 ct1 oc2 kV2 dc2 pm2 cd2 ct2 oc3 kV3 dc3 pm3 cd3 ct3 oc4 kV4 dc4 pm4 cd4 ct4 oc5 kV5 dc5 pm5 cd5 ct5 oc6 kV6 dc6 pm6 cd6 ct6 oc7 kV7 dc7 pm7 cd7 ct7 oc8 kV8 dc8 pm8 cd8 ct8 oc9 kV9 dc9 pm9 cd9 ct9 oc10 kV10 dc10 pm10 cd10 ct10 : Value} {t_LEFT t_TOP t_RIGHT t_BELOW : Tok}
    (a0 : PySem.W.nsIn K mainGlobals "is_printed" = some (some (.ref f0)))
    (l0 : K.lookup f0 = some ⟨oc0, od0, .func (PySem.W.fnOf "is_printed" "is_printed" (defArgs sPrn) (defBody sPrn) (defScope sPrn) .none kV0 dc0 pm0 an0 cd0 ct0), sl0⟩)
    (c0 : PySem.W.codeIn K cd0 "is_printed" = true)
    (k0 : PySem.W.keepIn K (.ref f0) = true)
    (a1 : PySem.W.nsIn K mainGlobals "words_of" = some (some (.ref f1)))
    (l1 : K.lookup f1 = some ⟨oc1, od1, .func (PySem.W.fnOf "words_of" "words_of" (defArgs sWof) (defBody sWof) (defScope sWof) .none kV1 dc1 pm1 an1 cd1 ct1), sl1⟩)
    (c1 : PySem.W.codeIn K cd1 "words_of" = true)
    (k1 : PySem.W.keepIn K (.ref f1) = true)
    (a2 : PySem.W.nsIn K mainGlobals "words_in" = some (some (.ref f2)))
    (l2 : K.lookup f2 = some ⟨oc2, od2, .func (PySem.W.fnOf "words_in" "words_in" (defArgs sWin) (defBody sWin) (defScope sWin) .none kV2 dc2 pm2 an2 cd2 ct2), sl2⟩)
    (c2 : PySem.W.codeIn K cd2 "words_in" = true)
    (k2 : PySem.W.keepIn K (.ref f2) = true)
    (a3 : PySem.W.nsIn K mainGlobals "_law_stir" = some (some (.ref f3)))
    (l3 : K.lookup f3 = some ⟨oc3, od3, .func (PySem.W.fnOf "_law_stir" "_law_stir" (defArgs sStir) (defBody sStir) (defScope sStir) .none kV3 dc3 pm3 an3 cd3 ct3), sl3⟩)
    (c3 : PySem.W.codeIn K cd3 "_law_stir" = true)
    (k3 : PySem.W.keepIn K (.ref f3) = true)
    (a4 : PySem.W.nsIn K mainGlobals "_law_cell" = some (some (.ref f4)))
    (l4 : K.lookup f4 = some ⟨oc4, od4, .func (PySem.W.fnOf "_law_cell" "_law_cell" (defArgs sCell) (defBody sCell) (defScope sCell) .none kV4 dc4 pm4 an4 cd4 ct4), sl4⟩)
    (c4 : PySem.W.codeIn K cd4 "_law_cell" = true)
    (k4 : PySem.W.keepIn K (.ref f4) = true)
    (a5 : PySem.W.nsIn K mainGlobals "_law_word" = some (some (.ref f5)))
    (l5 : K.lookup f5 = some ⟨oc5, od5, .func (PySem.W.fnOf "_law_word" "_law_word" (defArgs sLw) (defBody sLw) (defScope sLw) .none kV5 dc5 pm5 an5 cd5 ct5), sl5⟩)
    (c5 : PySem.W.codeIn K cd5 "_law_word" = true)
    (k5 : PySem.W.keepIn K (.ref f5) = true)
    (a6 : PySem.W.nsIn K mainGlobals "_law_rows" = some (some (.ref f6)))
    (l6 : K.lookup f6 = some ⟨oc6, od6, .func (PySem.W.fnOf "_law_rows" "_law_rows" (defArgs sRows67) (defBody sRows67) (defScope sRows67) .none kV6 dc6 pm6 an6 cd6 ct6), sl6⟩)
    (c6 : PySem.W.codeIn K cd6 "_law_rows" = true)
    (k6 : PySem.W.keepIn K (.ref f6) = true)
    (a7 : PySem.W.nsIn K mainGlobals "_law_box" = some (some (.ref f7)))
    (l7 : K.lookup f7 = some ⟨oc7, od7, .func (PySem.W.fnOf "_law_box" "_law_box" (defArgs sLbox) (defBody sLbox) (defScope sLbox) .none kV7 dc7 pm7 an7 cd7 ct7), sl7⟩)
    (c7 : PySem.W.codeIn K cd7 "_law_box" = true)
    (k7 : PySem.W.keepIn K (.ref f7) = true)
    (a8 : PySem.W.nsIn K mainGlobals "_law_words" = some (some (.ref f8)))
    (l8 : K.lookup f8 = some ⟨oc8, od8, .func (PySem.W.fnOf "_law_words" "_law_words" (defArgs sLws) (defBody sLws) (defScope sLws) .none kV8 dc8 pm8 an8 cd8 ct8), sl8⟩)
    (c8 : PySem.W.codeIn K cd8 "_law_words" = true)
    (k8 : PySem.W.keepIn K (.ref f8) = true)
    (a9 : PySem.W.nsIn K mainGlobals "_law_refused" = some (some (.ref f9)))
    (l9 : K.lookup f9 = some ⟨oc9, od9, .func (PySem.W.fnOf "_law_refused" "_law_refused" (defArgs sRef) (defBody sRef) (defScope sRef) .none kV9 dc9 pm9 an9 cd9 ct9), sl9⟩)
    (c9 : PySem.W.codeIn K cd9 "_law_refused" = true)
    (k9 : PySem.W.keepIn K (.ref f9) = true)
    (a10 : PySem.W.nsIn K mainGlobals "law" = some (some (.ref f10)))
    (l10 : K.lookup f10 = some ⟨oc10, od10, .func (PySem.W.fnOf "law" "law" (defArgs sLaw) (defBody sLaw) (defScope sLaw) .none kV10 dc10 pm10 an10 cd10 ct10), sl10⟩)
    (c10 : PySem.W.codeIn K cd10 "law" = true)
    (k10 : PySem.W.keepIn K (.ref f10) = true)
    (C0m : PySem.W.nsIn K mainGlobals "PartError" = some (some (.ref C0)))
    (C1m : PySem.W.nsIn K mainGlobals "NoPage" = some (some (.ref C1)))
    (C2m : PySem.W.nsIn K mainGlobals "NoPicture" = some (some (.ref C2)))
    (C3m : PySem.W.nsIn K mainGlobals "NoPlace" = some (some (.ref C3)))
    (C4m : PySem.W.nsIn K mainGlobals "NoTree" = some (some (.ref C4)))
    (C5m : PySem.W.nsIn K mainGlobals "NoNeeds" = some (some (.ref C5)))
    (C6m : PySem.W.nsIn K mainGlobals "NoTexts" = some (some (.ref C6)))
    (C7m : PySem.W.nsIn K mainGlobals "NoRoom" = some (some (.ref C7)))
    (C8m : PySem.W.nsIn K mainGlobals "NoRow" = some (some (.ref C8)))
    (C9m : PySem.W.nsIn K mainGlobals "NoNumber" = some (some (.ref C9)))
    (z_len : PySem.W.nsIn K mainGlobals "len" = some none)
    (z_range : PySem.W.nsIn K mainGlobals "range" = some none)
    (z_isinstance : PySem.W.nsIn K mainGlobals "isinstance" = some none)
    (z_list : PySem.W.nsIn K mainGlobals "list" = some none)
    (z_all : PySem.W.nsIn K mainGlobals "all" = some none)
    (z_ValueError : PySem.W.nsIn K mainGlobals "ValueError" = some none)
    (g_LEFT : PySem.W.nsIn K mainGlobals "LEFT" = some (some (.int 0 t_LEFT)))
    (g_TOP : PySem.W.nsIn K mainGlobals "TOP" = some (some (.int 1 t_TOP)))
    (g_RIGHT : PySem.W.nsIn K mainGlobals "RIGHT" = some (some (.int 2 t_RIGHT)))
    (g_BELOW : PySem.W.nsIn K mainGlobals "BELOW" = some (some (.int 3 t_BELOW)))
    (ex3 : PySem.W.excIn K C3 [.type "ValueError", .type "Exception", .type "BaseException", .type "object"] "ValueError.__new__" = true)
    (e0a : PySem.W.findIn K (.ref C0) "__getattribute__" = some (some (.builtin "BaseException.__getattribute__")))
    (e0b : PySem.W.findIn K (.ref C0) "__getattr__" = some none)
    (e0c : PySem.W.findIn K (.ref C0) "__class__" = some (some (.builtin "object.__class__")))
    (e0f : PySem.W.mroIn K C0 (.type "object") = some true)
    (e0g : PySem.W.mroIn K C0 (.type "BaseException") = some true)
    (e0h : PySem.W.typeIn K (.ref C0) = some (.type "type"))
    (e0i : (PySem.W.clsIn K C0).isSome = true)
    (e3a : PySem.W.findIn K (.ref C3) "__getattribute__" = some (some (.builtin "BaseException.__getattribute__")))
    (e3b : PySem.W.findIn K (.ref C3) "__getattr__" = some none)
    (e3c : PySem.W.findIn K (.ref C3) "__class__" = some (some (.builtin "object.__class__")))
    (e3f : PySem.W.mroIn K C3 (.type "object") = some true)
    (e3g : PySem.W.mroIn K C3 (.type "BaseException") = some true)
    (e3h : PySem.W.typeIn K (.ref C3) = some (.type "type"))
    (e3i : (PySem.W.clsIn K C3).isSome = true)
    (ed : PySem.W.specialIn K (.builtin "object.__class__") "__get__" = some (some (.builtin "getset_descriptor.__get__")))
    (ee : PySem.W.takesIn K (.builtin "object.__class__") = some true)
    (up : PySem.W.mroIn K C3 (.ref C0) = some true)
    (q3 : PySem.W.kitOne K (.ref C3) (.ref C3) = some true)
    (qv : PySem.W.kitOne K (.ref C3) (.type "ValueError") = some true)
    (qA : PySem.W.kitAny K (.ref C3) [.ref C2, .ref C1, .ref C4, .ref C5] = some false)
    (qB : PySem.W.kitAny K (.ref C3) [.ref C6, .ref C7, .ref C8, .ref C9] = some false) :
    ∃ fd : FuncData, (∀ (s : Shared) (v : Value), BindsTo s fd ⟨[v], []⟩ [("script", v)]) ∧ ∀ base : Heap, K.In base → base.Ns mainGlobals mg → FnOk l.prog w K mg base CX0 5 fa fd ["script"] (spLaw K) := by
  have e := hfa.symm.trans (PySem.W.mg_of X G a10)
  cases e
  have F0 := fun_mk (st := sPrn) l0 c0 k0
  have F1 := fun_mk (st := sWof) l1 c1 k1
  have F2 := fun_mk (st := sWin) l2 c2 k2
  have F3 := fun_mk (st := sStir) l3 c3 k3
  have F4 := fun_mk (st := sCell) l4 c4 k4
  have F5 := fun_mk (st := sLw) l5 c5 k5
  have F6 := fun_mk (st := sRows67) l6 c6 k6
  have F7 := fun_mk (st := sLbox) l7 c7 k7
  have F8 := fun_mk (st := sLws) l8 c8 k8
  have F9 := fun_mk (st := sRef) l9 c9 k9
  have F10 := fun_mk (st := sLaw) l10 c10 k10
  have xc0 : ExcCls K C0 := ⟨e0a, e0b, e0c, ed, ee, e0f, e0g, e0h, e0i⟩
  have xc3 : ExcCls K C3 := ⟨e3a, e3b, e3c, ed, ee, e3f, e3g, e3h, e3i⟩
  have Z : Nm K mg := ⟨⟨_, PySem.W.mg_of X G g_LEFT⟩, ⟨_, PySem.W.mg_of X G g_TOP⟩, ⟨_, PySem.W.mg_of X G g_RIGHT⟩, ⟨_, PySem.W.mg_of X G g_BELOW⟩, (PySem.W.mg_none_of X G z_len), (PySem.W.mg_none_of X G z_all)⟩
  have ZK : Kinds K mg C0 C1 C2 C3 C4 C5 C6 C7 C8 C9 := ⟨PySem.W.mg_of X G C0m, PySem.W.mg_of X G C1m, PySem.W.mg_of X G C2m, PySem.W.mg_of X G C3m, PySem.W.mg_of X G C4m, PySem.W.mg_of X G C5m, PySem.W.mg_of X G C6m, PySem.W.mg_of X G C7m, PySem.W.mg_of X G C8m, PySem.W.mg_of X G C9m, (PySem.W.mg_none_of X G z_ValueError), xc0, xc3, up, q3, qv, qA, qB⟩
  refine ⟨PySem.W.fnOf "law" "law" (defArgs sLaw) (defBody sLaw) (defScope sLaw) .none kV10 dc10 pm10 an10 cd10 ct10, fun s v => .of_eq rfl, fun base B _ => ?_⟩
  have Y0 : Callee l.prog w K mg base CX0 1 "is_printed" f0 _ ["rows", "box"] spPrn := ⟨ok_prn F0 Z, PySem.W.mg_of X G a0, k0, F0.binds fun _ _ _ _ _ _ us hl => match us, hl with | [_, _], _ => rfl⟩
  have Y1 : Callee l.prog w K mg base CX0 1 "words_of" f1 _ ["rows", "box"] spWof := ⟨ok_wof F1 Z, PySem.W.mg_of X G a1, k1, F1.binds fun _ _ _ _ _ _ us hl => match us, hl with | [_, _], _ => rfl⟩
  have Y2 : Callee l.prog w K mg base (CXE l.prog w) 3 "words_in" f2 _ ["rows", "boxes"] (spWin C3) := ⟨ok_win F2 Z ⟨PySem.W.mg_of X G C3m, ex3⟩ Y0 Y1, PySem.W.mg_of X G a2, k2, F2.binds fun _ _ _ _ _ _ us hl => match us, hl with | [_, _], _ => rfl⟩
  have Y3 : Callee l.prog w K mg base CX0 1 "_law_stir" f3 _ ["cell", "k"] spStir := ⟨ok_stir F3, PySem.W.mg_of X G a3, k3, F3.binds fun _ _ _ _ _ _ us hl => match us, hl with | [_, _], _ => rfl⟩
  have Y4 : Callee l.prog w K mg base CX0 2 "_law_cell" f4 _ ["script", "k"] (spCell K) := ⟨ok_cell F4 (PySem.W.mg_none_of X G z_len) Y3, PySem.W.mg_of X G a4, k4, F4.binds fun _ _ _ _ _ _ us hl => match us, hl with | [_, _], _ => rfl⟩
  have Y5 : Callee l.prog w K mg base CX0 1 "_law_word" f5 _ ["cell"] spLwd := ⟨ok_lwd F5 (PySem.W.mg_none_of X G z_range), PySem.W.mg_of X G a5, k5, F5.binds fun _ _ _ _ _ _ us hl => match us, hl with | [_], _ => rfl⟩
  have Y6 : Callee l.prog w K mg base CX0 3 "_law_rows" f6 _ ["script", "wide", "high"] (spRows K) := ⟨ok_rows F6 (PySem.W.mg_none_of X G z_range) (PySem.W.mg_none_of X G z_len) Y4 Y5, PySem.W.mg_of X G a6, k6, F6.binds fun _ _ _ _ _ _ us hl => match us, hl with | [_, _, _], _ => rfl⟩
  have Y7 : Callee l.prog w K mg base CX0 1 "_law_box" f7 _ ["cell", "wide", "high"] spLbox := ⟨ok_lbox F7, PySem.W.mg_of X G a7, k7, F7.binds fun _ _ _ _ _ _ us hl => match us, hl with | [_, _, _], _ => rfl⟩
  have Y8 : Callee l.prog w K mg base CX0 1 "_law_words" f8 _ ["rows", "box"] spLws := ⟨ok_lws F8 (PySem.W.mg_none_of X G z_range), PySem.W.mg_of X G a8, k8, F8.binds fun _ _ _ _ _ _ us hl => match us, hl with | [_, _], _ => rfl⟩
  have Y9 : Callee l.prog w K mg base CX0 4 "_law_refused" f9 _ ["rows", "boxes"] spRefused := ⟨ok_refused F9 (PySem.W.mg_none_of X G z_isinstance) ZK Y2, PySem.W.mg_of X G a9, k9, F9.binds fun _ _ _ _ _ _ us hl => match us, hl with | [_, _], _ => rfl⟩
  exact ok_law F10 (PySem.W.mg_none_of X G z_len) (PySem.W.mg_none_of X G z_list) (PySem.W.mg_none_of X G z_isinstance) (PySem.W.mg_none_of X G z_range) Y4 Y6 Y7 Y8 Y2 Y9
end KX
open PySem PySem.W PyProof.Rows
set_option maxRecDepth 100000 in
set_option maxHeartbeats 0 in
theorem PySem.Challenge.cw_pagepart_k67_words_read_holds : PySem.Challenge.rw_pagepart_k67_words_read.Holds := by
  w_on; o_law; k_head; (case hw => w_witness2)
  k_fill
  refine L2.walk_ofK (l := PySem.Challenge.rw_pagepart_k67_words_read) (n := 63) (k := 5) (x := "script") (CX := L2.CX0) (sp := fun K => KX.spLaw K) rfl (by decide) rfl ⟨rfl, by decide, by decide⟩ (fun w h Y => PySem.W.kIn_of Y) ?F (fun K H a ns hl hO hS => ⟨a, ns, rfl, hS, hl, fun _ => rfl⟩) fun _ _ _ _ z => z
  case F =>
    intro w mg fa h KX G hmg 
    refine' _root_.KX.all_mk KX G hmg  ?a0 ?l0 ?c0 ?k0 ?a1 ?l1 ?c1 ?k1 ?a2 ?l2 ?c2 ?k2 ?a3 ?l3 ?c3 ?k3 ?a4 ?l4 ?c4 ?k4 ?a5 ?l5 ?c5 ?k5 ?a6 ?l6 ?c6 ?k6 ?a7 ?l7 ?c7 ?k7 ?a8 ?l8 ?c8 ?k8 ?a9 ?l9 ?c9 ?k9 ?a10 ?l10 ?c10 ?k10 ?C0m ?C1m ?C2m ?C3m ?C4m ?C5m ?C6m ?C7m ?C8m ?C9m ?z_len ?z_range ?z_isinstance ?z_list ?z_all ?z_ValueError ?g_LEFT ?g_TOP ?g_RIGHT ?g_BELOW ?ex3 ?e0a ?e0b ?e0c ?e0f ?e0g ?e0h ?e0i ?e3a ?e3b ?e3c ?e3f ?e3g ?e3h ?e3i ?ed ?ee ?up ?q3 ?qv ?qA ?qB
    (case a0 => k_is)
    (case l0 => k_is)
    (case c0 => k_is)
    (case k0 => k_is)
    (case a1 => k_is)
    (case l1 => k_is)
    (case c1 => k_is)
    (case k1 => k_is)
    (case a2 => k_is)
    (case l2 => k_is)
    (case c2 => k_is)
    (case k2 => k_is)
    (case a3 => k_is)
    (case l3 => k_is)
    (case c3 => k_is)
    (case k3 => k_is)
    (case a4 => k_is)
    (case l4 => k_is)
    (case c4 => k_is)
    (case k4 => k_is)
    (case a5 => k_is)
    (case l5 => k_is)
    (case c5 => k_is)
    (case k5 => k_is)
    (case a6 => k_is)
    (case l6 => k_is)
    (case c6 => k_is)
    (case k6 => k_is)
    (case a7 => k_is)
    (case l7 => k_is)
    (case c7 => k_is)
    (case k7 => k_is)
    (case a8 => k_is)
    (case l8 => k_is)
    (case c8 => k_is)
    (case k8 => k_is)
    (case a9 => k_is)
    (case l9 => k_is)
    (case c9 => k_is)
    (case k9 => k_is)
    (case a10 => k_is)
    (case l10 => k_is)
    (case c10 => k_is)
    (case k10 => k_is)
    (case C0m => k_is)
    (case C1m => k_is)
    (case C2m => k_is)
    (case C3m => k_is)
    (case C4m => k_is)
    (case C5m => k_is)
    (case C6m => k_is)
    (case C7m => k_is)
    (case C8m => k_is)
    (case C9m => k_is)
    (case z_len => k_is)
    (case z_range => k_is)
    (case z_isinstance => k_is)
    (case z_list => k_is)
    (case z_all => k_is)
    (case z_ValueError => k_is)
    (case g_LEFT => k_is)
    (case g_TOP => k_is)
    (case g_RIGHT => k_is)
    (case g_BELOW => k_is)
    (case ex3 => kernel_rfl)
    (case e0a => k_is)
    (case e0b => k_is)
    (case e0c => k_is)
    (case e0f => k_is)
    (case e0g => k_is)
    (case e0h => k_is)
    (case e0i => kernel_rfl)
    (case e3a => k_is)
    (case e3b => k_is)
    (case e3c => k_is)
    (case e3f => k_is)
    (case e3g => k_is)
    (case e3h => k_is)
    (case e3i => kernel_rfl)
    (case ed => k_is)
    (case ee => k_is)
    (case up => k_is)
    (case q3 => kernel_rfl)
    (case qv => kernel_rfl)
    (case qA => kernel_rfl)
    (case qB => kernel_rfl)
#print axioms PySem.Challenge.cw_pagepart_k67_words_read_holds
