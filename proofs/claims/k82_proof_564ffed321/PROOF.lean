import PyProof.Rows.All
import Wide.All
import OpenK.AllK
import Wide.FinOn
import Lean
import PyProof.EqAt
import PyProof.EqKinds
import PyProof.TupleCall
import PyProof.Draws
import PyProof.EnumMake
import PyProof.TupleIter
import PyProof.WalksMore
import PyProof.MinMaxWalk
import PyProof.SeqI3
import KE.KSortTup
import KE.KLam
import PyProof.CompFree
import PyProof.CompUse
import PyProof.ConsumeWalk
import PyProof.SumWalk
import PyProof.NeKinds
import KE.KIsAll
import PyProof.Rows.CallKwBuiltin
import PyProof.Rows.StrJoin2
import PyProof.Rows.SortShell
import PyProof.StrBlock2
import PyProof.StrWalks
import PyProof.FString5
import PyProof.ZipIter
import PyProof.Rows.StrSplitAre
import PyProof.StrLawsTight
import PyProof.SumWalkG
import PyProof.Conv_int_bool
import PySem.SetOps
import PyProof.Rows.SetFrom
import KE.KRevIter
import PyProof.AutoSeq1
import PyProof.Rows.SortWalk
import PyProof.Rows.SeqMore
import PyProof.Rows.FactsT2
import PyProof.ListNew
import PyProof.CollectWalk
import PySem.Challenge.RW_pagepart_k82_whole_tree_or_stuck
set_option Elab.async false
set_option linter.all false
set_option maxRecDepth 100000
namespace L2
open PySem PySem.Spec PyProof.Rows
abbrev Key := Sum Int Str
def keyIs : Key → Value → Bool
  | .inl k, v => Value.isInt k v
  | .inr x, v => Value.isStrOf x v
def keyH (w : World) : Key → Int
  | .inl k => hashInt k
  | .inr x => hashStr w x
theorem keyIs_shape : ∀ {k : Key} {v : Value}, keyIs k v = true → (∃ i t, k = Sum.inl i ∧ v = Value.int i t) ∨ (∃ x t, k = Sum.inr x ∧ v = Value.str x t)
  | .inl i, v, h => by
    obtain ⟨t, e⟩ := Value.isInt_shape (k := i) (v := v) h
    exact .inl ⟨i, t, rfl, e⟩
  | .inr x, v, h => by
    obtain ⟨t, e⟩ := Value.isStrOf_shape (x := x) (v := v) h
    exact .inr ⟨x, t, rfl, e⟩
theorem key_ll (a b : Int) : decide ((Sum.inl a : Key) = Sum.inl b) = (a == b) := by
  by_cases e : a = b
  · subst e; simp
  · have h : ¬ (Sum.inl a : Key) = Sum.inl b := fun q => e (Sum.inl.inj q)
    rw [decide_eq_false h]
    exact (beq_eq_false_iff_ne.mpr e).symm
theorem key_rr (a b : Str) : decide ((Sum.inr a : Key) = Sum.inr b) = decide (a = b) := by
  by_cases e : a = b
  · subst e; simp
  · have h : ¬ (Sum.inr a : Key) = Sum.inr b := fun q => e (Sum.inr.inj q)
    rw [decide_eq_false h, decide_eq_false e]
theorem key_lr (a : Int) (b : Str) : decide ((Sum.inl a : Key) = Sum.inr b) = false := decide_eq_false (fun q => nomatch q)
theorem key_rl (a : Str) (b : Int) : decide ((Sum.inr a : Key) = Sum.inl b) = false := decide_eq_false (fun q => nomatch q)
def mixKind (prog : Program) (w : World) : PySem.KeyKind prog w Key where
  is := keyIs
  hash := keyH w
  inj := fun v a b ha hb => by
    rcases keyIs_shape ha with ⟨i, t, rfl, rfl⟩ | ⟨x, t, rfl, rfl⟩
    · rcases keyIs_shape hb with ⟨j, u, rfl, e⟩ | ⟨y, u, rfl, e⟩
      · injection e with e1 _; rw [e1]
      · exact nomatch e
    · rcases keyIs_shape hb with ⟨j, u, rfl, e⟩ | ⟨y, u, rfl, e⟩
      · exact nomatch e
      · injection e with e1 _; rw [e1]
  byValue := fun k v h => by
    rcases keyIs_shape h with ⟨i, t, rfl, rfl⟩ | ⟨x, t, rfl, rfl⟩ <;> rfl
  pyHash := fun hv h => by
    rcases keyIs_shape hv with ⟨i, t, rfl, rfl⟩ | ⟨x, t, rfl, rfl⟩
    · exact wpAny_pyHash_int h
    · exact wpAny_pyHash_str h
  eqBool := fun hu hv h => by
    rcases keyIs_shape hu with ⟨i, t, rfl, rfl⟩ | ⟨x, t, rfl, rfl⟩
    · rcases keyIs_shape hv with ⟨j, u, rfl, rfl⟩ | ⟨y, u, rfl, rfl⟩
      · rw [key_ll] at h; exact wpAny_eqBool_int h
      · rw [key_lr] at h; exact SeqAt.EqAt.int_str i t y u _ _ _ _ h
    · rcases keyIs_shape hv with ⟨j, u, rfl, rfl⟩ | ⟨y, u, rfl, rfl⟩
      · rw [key_rl] at h; exact SeqAt.EqAt.str_int x t j u _ _ _ _ h
      · rw [key_rr] at h; exact wpAny_eqBool_str h
  «strs» := fun k x t v h => by
    rcases keyIs_shape h with ⟨i, u, rfl, e⟩ | ⟨y, u, rfl, e⟩
    · exact nomatch e
    · injection e with e1 _
      subst e1
      cases v <;> rfl
end L2
namespace L2
open PySem PySem.Spec PyProof.Rows
inductive V where
  | non | bl (b : Bool) | int (i : Int) | str (x : Str) | byt (b : Array UInt8) | flt (b : UInt64) | ref (a : Addr) | ty (n : String)
  deriving DecidableEq
def RelV : V → Value → Prop
  | .non, u => u = Value.none
  | .bl b, u => u = Value.bool b
  | .int i, u => ∃ t, u = Value.int i t
  | .str x, u => ∃ t, u = Value.str x t
  | .byt b, u => ∃ t, u = Value.bytes b t
  | .flt b, u => ∃ t, u = Value.float b t
  | .ref a, u => u = Value.ref a
  | .ty n, u => u = Value.type n
abbrev Vals : List V → List Value → Prop := Paired RelV
theorem Vals.length {xs : List V} {us : List Value} (r : Vals xs us) : xs.length = us.length := Paired.length r
theorem Vals.get : ∀ {xs : List V} {us : List Value} {i : Nat} {x : V}, Vals xs us → xs[i]? = some x → ∃ u, us[i]? = some u ∧ RelV x u
  | _, _, _, _, .nil, e => by simp at e
  | _, _, 0, _, .cons r _, e => by simp at e; subst e; exact ⟨_, rfl, r⟩
  | _, _, i + 1, x, .cons _ t, e => by
    obtain ⟨u, h1, h2⟩ := Vals.get (i := i) (x := x) t (by simpa using e)
    exact ⟨u, by simpa using h1, h2⟩
theorem Vals.append : ∀ {xs ys : List V} {us ws : List Value}, Vals xs us → Vals ys ws → Vals (xs ++ ys) (us ++ ws)
  | _, _, _, _, .nil, s => s
  | _, _, _, _, .cons r t, s => .cons r (Vals.append t s)
theorem Vals.take : ∀ {xs : List V} {us : List Value} (n : Nat), Vals xs us → Vals (xs.take n) (us.take n)
  | _, _, 0, _ => .nil
  | _, _, _ + 1, .nil => .nil
  | _, _, n + 1, .cons r t => .cons r (Vals.take n t)
theorem Vals.drop : ∀ {xs : List V} {us : List Value} (n : Nat), Vals xs us → Vals (xs.drop n) (us.drop n)
  | _, _, 0, r => r
  | _, _, _ + 1, .nil => .nil
  | _, _, n + 1, .cons _ t => Vals.drop n t
def RelO : Option V → Option Value → Prop
  | some v, some u => RelV v u
  | none, none => True
  | _, _ => False
def KV {κ : Type} : List (κ × V) → List (κ × Value) → Prop := Paired fun (p : κ × V) (q : κ × Value) => p.1 = q.1 ∧ RelV p.2 q.2
def kV : Key → V
  | .inl i => .int i
  | .inr x => .str x
inductive HO where
  /-- a list -/
  | lst (xs : List V)
  /-- a tuple (never changes) -/
  | tup (xs : List V)
  /-- a dict whose keys are ints and texts; one whose keys are tuples of ints and texts (the empty one is both) -/
  | dK (kvs : List (Key × V)) | dT (kvs : List (List Key × V))
  /-- a set of ints: its members, its size -/
  | set (S : Int → Bool) (n : Nat)
  /-- an instance of the class at C, its dict at dx, its attributes -/
  | ins (C dx : Addr) (fs : List (Str × V))
  /-- the dict of the instance at x -/
  | own (x : Addr)
  /-- the dict of an exception -/
  | xd (fs : List (Str × V))
  /-- a bound method, f of x -/
  | met (f x : Addr)
  /-- a range object lo, lo + 1, .. below hi -/
  | rng (lo hi : Int)
  /-- a thing that is known to the object (the script; a dict while a loop walks it): read, never written while it is so -/
  | frz (o : Obj) (u : HO)
  /-- a code object's table -/
  | tbl (ps : Array Value)
  /-- any other thing, by what is true of its one object (a def of one's own: SetO a S n := HO.ext fun h => ..) -/
  | ext (φ : Heap → Prop)
abbrev Hp := Addr → Option HO
def upd (H : Hp) (a : Addr) (o : HO) : Hp := fun b => if b = a then some o else H b
theorem upd_same {H : Hp} {a : Addr} {o : HO} : upd H a o a = some o := by unfold upd; rw [if_pos rfl]
theorem upd_ne {H : Hp} {a b : Addr} {o : HO} (h : b ≠ a) : upd H a o b = H b := by unfold upd; rw [if_neg h]
theorem ne_of_none {H : Hp} {a b : Addr} {o : HO} (h : H a = some o) (h' : H b = none) : a ≠ b := by
  intro e; subst e; rw [h] at h'; cases h'
section
variable (P : Program) (w : World)
def ObjOk (H : Hp) (h : Heap) (a : Addr) : HO → Prop
  | .lst xs => xs.length ≤ sizeLine ∧ ∃ (its : List Value) (n : Nat), Vals xs its ∧ h.get? a = some { cls := .type "list", data := .seq its.toArray n }
  | .tup xs => xs.length ≤ sizeLine ∧ ∃ its : List Value, Vals xs its ∧ IsTup h a its.toArray
  | .dK kvs => kvs.length ≤ sizeLine ∧ (a == sysModules) = false ∧ ∃ vs, KV kvs vs ∧ h.DictOf (mixKind P w) a vs
  | .dT kvs => kvs.length ≤ sizeLine ∧ (a == sysModules) = false ∧ ∃ xs : List (List Key × Addr × Value),
      Paired (fun (p : List Key × V) (q : List Key × Addr × Value) => p.1 = q.1 ∧ H q.2.1 = some (.tup (p.1.map kV)) ∧ RelV p.2 q.2.2) kvs xs ∧
      ∃ o es ep, h.get? a = some o ∧ o.ExactDict ∧ o.data = .dict es ep ∧ es.toList = xs.map (entryOfKey (tupleKind (mixKind P w))) ∧ (xs.map (·.1)).Nodup
  | .set S n => h.SetOf (intKind P w) a S n
  | .ins C dx fs => H dx = some (.own a) ∧ fs.length ≤ 1000 ∧ dx ≠ a ∧ h.get? a = some (PySem.W.instObj C dx) ∧
      ∃ mA, h.Ns1 dx mA ∧ (∀ f, RelO (fs.lookup f) (mA f)) ∧ PySem.Within mA (fs.map (·.1))
  | .own _ => ∃ o, h.get? a = some o
  | .xd fs => ∃ mA, h.Ns1 a mA ∧ ∀ f, RelO (fs.lookup f) (mA f)
  | .rng lo hi => ∃ t u v, h.get? a = some { cls := .type "range", data := .fields #[.int lo t, .int hi u, .int 1 v] }
  | .frz o u => h.get? a = some o ∧ ObjOk H h a u
  | .tbl ps => h.get? a = some { cls := .none, data := .fields ps }
  | .met f x => h.get? a = some (PySem.W.methodObj (.ref f) (.ref x))
  | .ext φ => φ h ∧ (∃ o, h.get? a = some o) ∧ ∀ h1 h2 : Heap, φ h1 → (∀ o, h1.get? a = some o → h2.get? a = some o) → φ h2
def HOk (H : Hp) (h : Heap) : Prop := ∀ a o, H a = some o → ObjOk P w H h a o
end
section
variable {P : Program} {w : World} {H H' : Hp} {h h' : Heap} {a : Addr} {o : HO}
theorem ObjOk.lt (x : ObjOk P w H h a o) : a < h.objs.size := by
  cases o with
  | lst xs => obtain ⟨_, _, _, _, e⟩ := x; exact Heap.lt_size e
  | tup xs => obtain ⟨_, _, _, p⟩ := x; exact p.lt
  | dK kvs => obtain ⟨_, _, _, _, o, _, _, e, _⟩ := x; exact Heap.lt_size e
  | dT kvs => obtain ⟨_, _, _, _, o, _, _, e, _⟩ := x; exact Heap.lt_size e
  | set S n => obtain ⟨o, _, _, _, e, _⟩ := x; exact Heap.lt_size e
  | ins C dx fs => obtain ⟨_, _, _, e, _⟩ := x; exact Heap.lt_size e
  | own y => obtain ⟨_, e⟩ := x; exact Heap.lt_size e
  | xd fs => obtain ⟨_, ⟨_, _, _, e, _⟩, _⟩ := x; exact Heap.lt_size e
  | rng lo hi => obtain ⟨_, _, _, e⟩ := x; exact Heap.lt_size e
  | frz ob u => obtain ⟨e, _⟩ := x; exact Heap.lt_size e
  | tbl ps => exact Heap.lt_size (show h.get? a = some _ from x)
  | met f y => exact Heap.lt_size (show h.get? a = some _ from x)
  | ext φ => obtain ⟨_, ⟨_, e⟩, _⟩ := x; exact Heap.lt_size e
theorem Paired.mapP {α β : Type} {F G : α → β → Prop} : ∀ {l₁ : List α} {l₂ : List β}, Paired F l₁ l₂ → (∀ a b, F a b → G a b) → Paired G l₁ l₂
  | _, _, .nil, _ => .nil
  | _, _, .cons r t, f => .cons (f _ _ r) (Paired.mapP t f)
theorem Paired.imp' {α β : Type} {F G : α → β → Prop} (f : ∀ a b, F a b → G a b) {l₁ : List α} {l₂ : List β} (r : Paired F l₁ l₂) : Paired G l₁ l₂ := Paired.mapP r f
theorem ObjOk.stay (x : ObjOk P w H h a o) (k : ∀ b u, (b = a ∨ H b = some (.own a)) → h.get? b = some u → h'.get? b = some u)
    (ho : ∀ b, H b = some (.own a) → H' b = some (.own a)) (ht : ∀ b xs, H b = some (.tup xs) → H' b = some (.tup xs)) : ObjOk P w H' h' a o := by
  induction o with
  | lst xs => obtain ⟨z, its, n, r, e⟩ := x; exact ⟨z, its, n, r, k _ _ (.inl rfl) e⟩
  | tup xs => obtain ⟨z, its, r, ob, e, c⟩ := x; exact ⟨z, its, r, ob, k _ _ (.inl rfl) e, c⟩
  | dK kvs => obtain ⟨z, y, vs, r, ob, es, ep, e, c⟩ := x; exact ⟨z, y, vs, r, ob, es, ep, k _ _ (.inl rfl) e, c⟩
  | dT kvs =>
    obtain ⟨z, y, xs, r, ob, es, ep, e, c⟩ := x
    exact ⟨z, y, xs, Paired.mapP r fun p q z => ⟨z.1, ht _ _ z.2.1, z.2.2⟩, ob, es, ep, k _ _ (.inl rfl) e, c⟩
  | set S n => obtain ⟨ob, es, ep, t, e, c⟩ := x; exact ⟨ob, es, ep, t, k _ _ (.inl rfl) e, c⟩
  | ins C dx fs =>
    obtain ⟨d, z, ne, e, mA, ⟨od, es, ep, e2, c⟩, r⟩ := x
    exact ⟨ho _ d, z, ne, k _ _ (.inl rfl) e, mA, ⟨od, es, ep, k _ _ (.inr d) e2, c⟩, r⟩
  | own y => obtain ⟨ob, e⟩ := x; exact ⟨ob, k _ _ (.inl rfl) e⟩
  | xd fs => obtain ⟨mA, ⟨od, es, ep, e, c⟩, r⟩ := x; exact ⟨mA, ⟨od, es, ep, k _ _ (.inl rfl) e, c⟩, r⟩
  | rng lo hi => obtain ⟨t, u, v, e⟩ := x; exact ⟨t, u, v, k _ _ (.inl rfl) e⟩
  | frz ob u ih => obtain ⟨e, q⟩ := x; exact ⟨k _ _ (.inl rfl) e, ih q⟩
  | tbl ps =>
    have e : h.get? a = some { cls := .none, data := .fields ps } := x
    show h'.get? a = some { cls := .none, data := .fields ps }
    exact k a _ (.inl rfl) e
  | met f y =>
    have e : h.get? a = some (PySem.W.methodObj (.ref f) (.ref y)) := x
    show h'.get? a = some (PySem.W.methodObj (.ref f) (.ref y))
    exact k a _ (.inl rfl) e
  | ext φ => obtain ⟨p, ⟨o, e⟩, st⟩ := x; exact ⟨st _ _ p fun o q => k _ _ (.inl rfl) q, ⟨o, k _ _ (.inl rfl) e⟩, st⟩
theorem HOk.lt (x : HOk P w H h) (e : H a = some o) : a < h.objs.size := (x a o e).lt
theorem HOk.fresh (x : HOk P w H h) (e : h.objs.size ≤ a) : H a = none := by
  cases q : H a with
  | none => rfl
  | some u => exact absurd (Nat.lt_of_lt_of_le (x.lt q) e) (Nat.lt_irrefl _)
theorem HOk.kept (x : HOk P w H h) (k : ∀ b u, h.get? b = some u → h'.get? b = some u) : HOk P w H h' := fun a o e =>
  (x a o e).stay (fun b u _ q => k b u q) (fun _ q => q) fun _ _ q => q
theorem HOk.laid (x : HOk P w H h) (k : ∀ b u, h.get? b = some u → h'.get? b = some u) (hp : h.objs.size ≤ a) (new : ObjOk P w (upd H a o) h' a o) : HOk P w (upd H a o) h' := fun b u e => by
  have hn := x.fresh hp
  by_cases hb : b = a
  · subst hb; rw [upd_same] at e; cases e; exact new
  · rw [upd_ne hb] at e
    exact (x b u e).stay (fun c v _ q => k c v q) (fun c q => by rw [upd_ne (ne_of_none q hn)]; exact q) fun c xs q => by rw [upd_ne (ne_of_none q hn)]; exact q
end
def Rd (H : Hp) (a : Addr) (u : HO) : Prop := H a = some u ∨ ∃ o, H a = some (.frz o u)
theorem Rd.ok {P : Program} {w : World} {H : Hp} {h : Heap} {a : Addr} {u : HO} (r : Rd H a u) (x : HOk P w H h) : ObjOk P w H h a u := by
  rcases r with r | ⟨o, r⟩
  · exact x a u r
  · obtain ⟨_, q⟩ := x a _ r
    exact q
def Mut : Option HO → Prop
  | some (.lst _) => True
  | some (.dK _) => True
  | some (.dT _) => True
  | some (.set _ _) => True
  | some (.ins _ _ _) => True
  | some (.ext _) => True
  | _ => False
section
variable {P : Program} {w : World} {H : Hp} {h h' : Heap} {x e : Addr} {o' : HO}
theorem HOk.write (ok : HOk P w H h) (mu : Mut (H x)) (he : e = x ∨ H e = some (.own x)) (k : ∀ b u, b ≠ e → h.get? b = some u → h'.get? b = some u) (heo : ∃ u, h'.get? e = some u)
    (new : ObjOk P w (upd H x o') h' x o') : HOk P w (upd H x o') h' := fun b u q => by
  have nown : ∀ c y, H c = some (.own y) → c ≠ x := fun c y r z => by subst z; rw [r] at mu; exact mu
  have ntup : ∀ c xs, H c = some (.tup xs) → c ≠ x := fun c xs r z => by subst z; rw [r] at mu; exact mu
  by_cases hb : b = x
  · subst hb; rw [upd_same] at q; cases q; exact new
  · rw [upd_ne hb] at q
    by_cases hbe : b = e
    · have q' : H b = some (.own x) := by
        rcases he with z | z
        · exact absurd (hbe.trans z) hb
        · rw [hbe]; exact z
      rw [q] at q'; cases q'
      obtain ⟨v, hv⟩ := heo
      exact ⟨v, by rw [hbe]; exact hv⟩
    · refine (ok b u q).stay (fun c v hc r => k c v ?_ r) (fun c r => by rw [upd_ne (nown c b r)]; exact r) fun c xs r => by rw [upd_ne (ntup c xs r)]; exact r
      rcases hc with rfl | hc
      · exact hbe
      · rintro rfl
        rcases he with z | z
        · exact nown c b hc z
        · rw [hc] at z; cases z; exact hb rfl
end
structure Un (fs ex : List Addr) (H H' : Hp) (h h' : Heap) : Prop where
  keep : ∀ b o, h.get? b = some o → H b = none → b ∉ fs → b ∉ ex → h'.get? b = some o
  slot : ∀ b o, h.get? b = some o → H b = none → b ∈ fs → b ∉ ex → ∃ sl, h'.get? b = some { o with slots := sl }
  free : ∀ b o, h.get? b = some o → H b = none → b ∉ ex → H' b = none
  there : ∀ b o, h.get? b = some o → b ∉ ex → ∃ o', h'.get? b = some o'
  tups : ∀ b xs, H b = some (.tup xs) → H' b = some (.tup xs)
  frzs : ∀ b o u, H b = some (.frz o u) → H' b = some (.frz o u)
  tbls : ∀ b ps, H b = some (.tbl ps) → ∃ more, H' b = some (.tbl (ps ++ more))
section
variable {fs fs' ex ex' : List Addr} {H H1 H2 : Hp} {h h1 h2 h' : Heap} {a x e : Addr} {o : HO}
theorem Un.any (u : Un fs ex H H1 h h1) {b : Addr} {ob : Obj} (q : h.get? b = some ob) (n : H b = none) (hx : b ∉ ex) : ∃ sl, h1.get? b = some { ob with slots := sl } := by
  by_cases hb : b ∈ fs
  · exact u.slot b ob q n hb hx
  · exact ⟨ob.slots, u.keep b ob q n hb hx⟩
theorem Un.kept (k : ∀ b u, h.get? b = some u → h'.get? b = some u) : Un fs ex H H h h' :=
  ⟨fun b ob q _ _ _ => k b ob q, fun b ob q _ _ _ => ⟨ob.slots, k b ob q⟩, fun _ _ _ n _ => n, fun b ob q _ => ⟨ob, k b ob q⟩, fun _ _ q => q, fun _ _ _ q => q, fun _ ps q => ⟨#[], by rw [q]; simp⟩⟩
theorem Un.refl : Un fs ex H H h h := Un.kept fun _ _ q => q
theorem Un.laid (k : ∀ b u, h.get? b = some u → h'.get? b = some u) (hp : h.objs.size ≤ a) (hn : H a = none) : Un fs ex H (upd H a o) h h' where
  keep := fun b u q _ _ _ => k b u q
  slot := fun b u q _ _ _ => ⟨u.slots, k b u q⟩
  free := fun b u q n _ => by rw [upd_ne (Nat.ne_of_lt (Nat.lt_of_lt_of_le (Heap.lt_size q) hp))]; exact n
  there := fun b u q _ => ⟨u, k b u q⟩
  tups := fun b xs q => by rw [upd_ne (ne_of_none q hn)]; exact q
  frzs := fun b u xs q => by rw [upd_ne (ne_of_none q hn)]; exact q
  tbls := fun b ps q => ⟨#[], by rw [upd_ne (ne_of_none q hn), q]; simp⟩
theorem Un.write (mu : Mut (H x)) (he : e = x ∨ H e = some (.own x)) (k : ∀ b u, b ≠ e → h.get? b = some u → h'.get? b = some u) (heo : ∃ u, h'.get? e = some u) : Un fs ex H (upd H x o) h h' := by
  have hx : ∀ b, H b = none → b ≠ x := fun b n z => by subst z; rw [n] at mu; exact mu
  have hb : ∀ b, H b = none → b ≠ e := fun b n z => by
    subst z
    rcases he with r | r
    · exact hx b n r
    · rw [n] at r; cases r
  have hm : ∀ b u, H b = some u → ¬ Mut (some u) → b ≠ x := fun b u q nm z => by subst z; rw [q] at mu; exact nm mu
  refine ⟨fun b u q n _ _ => k b u (hb b n) q, fun b u q n _ _ => ⟨u.slots, k b u (hb b n) q⟩, fun b u q n _ => by rw [upd_ne (hx b n)]; exact n, fun b u q _ => ?_,
    fun b xs q => by rw [upd_ne (hm b _ q fun z => z)]; exact q, fun b u xs q => by rw [upd_ne (hm b _ q fun z => z)]; exact q, fun b ps q => ⟨#[], by rw [upd_ne (hm b _ q fun z => z), q]; simp⟩⟩
  by_cases hbe : b = e
  · subst hbe; exact heo
  · exact ⟨u, k b u hbe q⟩
end
def trk (h : Heap) (H : Hp) : List Addr := (List.range h.objs.size).filter fun a => (H a).isSome
def hidT (h : Heap) (H : Hp) : Heap := PySem.W.hideAll h (trk h H)
theorem hidT_size (h : Heap) (H : Hp) : (hidT h H).objs.size = h.objs.size := PySem.W.hideAll_size _ _
theorem hidT_get {h : Heap} {H : Hp} {b : Addr} {o : Obj} (e : h.get? b = some o) (n : H b = none) : (hidT h H).get? b = some o :=
  PySem.W.hideAll_get _ e fun hm => by
    have q : (H b).isSome = true := (List.mem_filter.mp hm).2
    rw [n] at q; simp at q
theorem of_hidT {h : Heap} {H : Hp} {b : Addr} {o : Obj} (e : (hidT h H).get? b = some o) : h.get? b = some o ∧ H b = none := by
  have e' : h.get? b = some o := PySem.W.of_hideAll (trk h H) e
  refine ⟨e', ?_⟩
  cases q : H b with
  | none => rfl
  | some x =>
    have hm : b ∈ trk h H := List.mem_filter.mpr ⟨List.mem_range.mpr (Heap.lt_size e'), by simp [q]⟩
    have z : (hidT h H).get? b = none := PySem.W.hideAll_none (trk h H) hm
    rw [z] at e; cases e
end L2
namespace L2
open PySem PySem.Spec PyProof.Rows
structure Mod (K : PySem.W.Frag) (mg : Str → Option Value) (base : Heap) : Prop where
  kin : K.In base
  glob : base.Ns mainGlobals mg
  blt : ∃ mb, base.Ns builtinsNs mb ∧ ∀ x : Str, x ≠ "__name__" → mb x = bootBuiltins x
  nolimit : base.NoLimit
structure Cx where
  prog : Program
  w : World
  K : PySem.W.Frag
  mg : Str → Option Value
  base : Heap
  A : Around
  N : List Str
  s₀ : Shared
  H₀ : Hp
  env : Env
  outer : List Env
  stack : List Env
  ex : List Addr
  fn : Str → Bool
  calm : Bool
  pn : List (Addr × Obj)
  xe : Value → Shared → Prop
def frs (l : List Env) : List Addr := l.filterMap (·.frame)
abbrev Cx.fs (X : Cx) : List Addr := frs X.outer
def Vis (sc : Scope) (x : Str) : Prop := sc.names.lookup x = some .local ∨ sc.names.lookup x = some .cell ∨ sc.names.lookup x = some .free
def Loc (sc : Scope) (x : Str) : Prop := sc.names.lookup x = some .local ∨ sc.names.lookup x = some .cell
def Look (env : Env) (h : Heap) (m : Str → Option Value) (x : Str) (u : Value) : Prop :=
  (env.kindOf x = some .local ∧ m x = some u) ∨ ((env.kindOf x = some .cell ∨ env.kindOf x = some .free) ∧ ∃ c, env.cells.lookup x = some c ∧ h.IsCell c (some u))
structure Cx.Ok (X : Cx) : Prop where
  mod : Mod X.K X.mg X.base
  kind : X.env.scope.kind = .function
  glob : X.env.globals = mainGlobals
  blt : X.env.builtins = builtinsNs
  above : X.s₀.heap.objs.size ≤ X.env.locals
  inj : ∀ x y c, X.env.cells.lookup x = some c → X.env.cells.lookup y = some c → x = y
  has : ∀ x, (X.env.kindOf x = some .cell ∨ X.env.kindOf x = some .free) → ∃ c, X.env.cells.lookup x = some c
  cab : ∀ x c, X.fn x = true → X.env.cells.lookup x = some c → X.s₀.heap.objs.size ≤ c
  hd : X.calm = true → X.A.handled = none
  frames : X.A.frames = some X.stack
  stk : X.stack = X.outer ∨ (X.stack = X.env :: X.outer ∧ X.env.frame = some X.env.locals)
  exf : ∀ b ∈ X.ex, b ≠ X.env.locals ∧ ∀ x c, X.env.cells.lookup x = some c → c ≠ b
  bs : ∀ b o, X.base.get? b = some o → X.s₀.heap.get? b = some o ∧ X.H₀ b = none
  bsz : X.base.objs.size ≤ X.s₀.heap.objs.size
  noex : ∀ b o, X.base.get? b = some o → b ∉ X.ex
  exfs : ∀ b ∈ X.ex, b ∉ X.fs
  funs : X.s₀.heap.FunFrames X.base X.outer
  frf : ∀ b ∈ X.fs, X.H₀ b = none
structure Inv (X : Cx) (pins : List (Addr × Obj)) (σ : List (Option V)) (H : Hp) (s : Shared) : Prop where
  ok : X.Ok
  os : s.os = X.s₀.os
  bare : AllBare s.gens
  base : Un X.fs X.ex X.H₀ H X.s₀.heap s.heap
  loc : ∃ m, s.heap.Ns X.env.locals m ∧ ∀ (i : Nat) (x : Str) (v : V), X.N[i]? = some x → σ[i]? = some (some v) → Vis X.env.scope x → ∃ u, RelV v u ∧ Look X.env s.heap m x u
  cell : ∀ x c, X.env.cells.lookup x = some c → ∃ v, s.heap.IsCell c v
  free : H X.env.locals = none
  freeC : ∀ x c, X.env.cells.lookup x = some c → H c = none
  pin : ∀ p ∈ X.pn ++ pins, s.heap.get? p.1 = some p.2 ∧ H p.1 = none ∧ p.1 ≠ X.env.locals ∧ p.1 ∉ X.fs ∧ ∀ v, p.2.data ≠ .cell v
  hok : HOk X.prog X.w H s.heap
  len : σ.length = X.N.length
section
variable {X : Cx} {pins : List (Addr × Obj)} {σ : List (Option V)} {H H' : Hp} {s : Shared} {h' : Heap}
theorem Cx.Ok.nofr (ok : X.Ok) {b : Addr} {o : Obj} (e : X.base.get? b = some o) : b ∉ X.fs := fun hb => by
  have := (ok.funs.mem hb).1
  rw [e] at this; cases this
theorem Inv.bs (I : Inv X pins σ H s) : ∀ b o, X.base.get? b = some o → s.heap.get? b = some o ∧ H b = none := fun b o e =>
  ⟨I.base.keep b o (I.ok.bs b o e).1 (I.ok.bs b o e).2 (I.ok.nofr e) (I.ok.noex b o e), I.base.free b o (I.ok.bs b o e).1 (I.ok.bs b o e).2 (I.ok.noex b o e)⟩
theorem Inv.bk (I : Inv X pins σ H s) : ∀ b o, X.base.get? b = some o → s.heap.get? b = some o := fun b o e => (I.bs b o e).1
theorem Inv.mod (I : Inv X pins σ H s) : Mod X.K X.mg X.base := I.ok.mod
theorem Inv.kIn (I : Inv X pins σ H s) : X.K.In s.heap := I.ok.mod.kin.keeps I.bk
theorem Inv.lt (I : Inv X pins σ H s) : X.env.locals < s.heap.objs.size := let ⟨_, hn, _⟩ := I.loc; hn.lt
theorem Inv.sz (I : Inv X pins σ H s) : X.s₀.heap.objs.size ≤ s.heap.objs.size := Nat.le_trans I.ok.above (Nat.le_of_lt I.lt)
theorem Inv.nofs (I : Inv X pins σ H s) {a : Addr} (h : s.heap.objs.size ≤ a) : a ∉ X.fs := fun hb => by
  obtain ⟨_, o, ho, _⟩ := I.ok.funs.mem hb
  exact absurd (Nat.lt_of_lt_of_le (Heap.lt_size ho) (Nat.le_trans I.sz h)) (Nat.lt_irrefl _)
theorem Inv.cne (I : Inv X pins σ H s) : ∀ x c, X.env.cells.lookup x = some c → c ≠ X.env.locals := fun x c e z => by
  obtain ⟨v, o, ho, hd⟩ := I.cell x c e
  obtain ⟨m, ⟨o', es, ep, ho', hd', _⟩, _⟩ := I.loc
  rw [z, ho'] at ho; cases ho; rw [hd'] at hd; cases hd
theorem Inv.funs (I : Inv X pins σ H s) : s.heap.FunFrames X.base X.outer := by
  have all : ∀ (l : List Env), (∀ b ∈ frs l, b ∈ X.fs) → X.s₀.heap.FunFrames X.base l → s.heap.FunFrames X.base l := by
    intro l
    induction l with
    | nil => intro _ _; trivial
    | cons env r ih =>
      intro hs hl
      obtain ⟨hk, ⟨L, o, hf, hn, ho, hd⟩, hr⟩ := hl
      have hL : L ∈ X.fs := hs L (by unfold frs; rw [List.filterMap_cons, hf]; exact List.mem_cons_self)
      obtain ⟨sl, e⟩ := I.base.slot L o ho (I.ok.frf L hL) hL fun z => I.ok.exfs L z hL
      exact ⟨hk, ⟨L, _, hf, hn, e, hd⟩, ih (fun b hb => hs b (by unfold frs; rw [List.filterMap_cons, hf]; exact List.mem_cons_of_mem _ hb)) hr⟩
  exact all X.outer (fun _ hb => hb) I.ok.funs
theorem Inv.stack (I : Inv X pins σ H s) : s.heap.FunFrames X.base X.stack := by
  rcases I.ok.stk with e | ⟨e, hf⟩
  · rw [e]; exact I.funs
  · rw [e]
    obtain ⟨m, hn, _⟩ := I.loc
    refine .cons (by rw [I.ok.kind]; decide) hf hn ?_ I.funs
    exact Heap.get?_none_of_le (Nat.le_trans I.ok.bsz I.ok.above)
theorem Inv.stkSub (I : Inv X pins σ H s) : ∀ b ∈ frs X.stack, b ∈ X.env.locals :: X.fs := fun b hb => by
  rcases I.ok.stk with e | ⟨e, hf⟩
  · rw [e] at hb; exact List.mem_cons_of_mem _ hb
  · rw [e] at hb
    unfold frs at hb
    rw [List.filterMap_cons, hf] at hb
    exact hb
theorem Inv.stkFree (I : Inv X pins σ H s) : ∀ b ∈ frs X.stack, H b = none := fun b hb => by
  rcases List.mem_cons.mp (I.stkSub b hb) with e | hb
  · rw [e]; exact I.free
  · obtain ⟨_, o, ho, _⟩ := I.ok.funs.mem hb
    exact I.base.free b o ho (I.ok.frf b hb) fun z => I.ok.exfs b z hb
theorem Inv.step {g' : Array GenState} {t' : Nat} {d' : Drawn} {ch : List Addr} (I : Inv X pins σ H s)
    (hch : ∀ b ∈ ch, (b ∈ X.ex ∨ X.s₀.heap.objs.size ≤ b) ∧ b ≠ X.env.locals ∧ (∀ x c, X.env.cells.lookup x = some c → c ≠ b) ∧ ∀ p ∈ X.pn ++ pins, p.1 ≠ b)
    (keep : ∀ b o, b ≠ X.env.locals → b ∉ X.fs → b ∉ ch → s.heap.get? b = some o → H b = none → h'.get? b = some o)
    (slot : ∀ b o, b ≠ X.env.locals → b ∈ X.fs → b ∉ ch → s.heap.get? b = some o → H b = none → ∃ sl, h'.get? b = some { o with slots := sl }) (free : ∀ b o, b ∉ ch → s.heap.get? b = some o → H b = none → H' b = none)
    (there : ∀ b o, b ∉ ch → s.heap.get? b = some o → ∃ o', h'.get? b = some o')
    (tups : ∀ b xs, H b = some (.tup xs) → H' b = some (.tup xs)) (frzs : ∀ b o u, H b = some (.frz o u) → H' b = some (.frz o u)) (tbls : ∀ b ps, H b = some (.tbl ps) → ∃ more, H' b = some (.tbl (ps ++ more)))
    (ns : ∀ m, s.heap.Ns X.env.locals m → h'.Ns X.env.locals m) (hok : HOk X.prog X.w H' h') (hg : AllBare g') :
    Inv X pins σ H' { s with heap := h', gens := g', drawn := d', toks := t' } := by
  have neL : ∀ b o, X.s₀.heap.get? b = some o → b ≠ X.env.locals := fun b o e => Nat.ne_of_lt (Nat.lt_of_lt_of_le (Heap.lt_size e) I.ok.above)
  have neC : ∀ b o, X.s₀.heap.get? b = some o → b ∉ X.ex → b ∉ ch := fun b o e hx hb => by
    rcases (hch b hb).1 with z | z
    · exact hx z
    · exact absurd (Nat.lt_of_lt_of_le (Heap.lt_size e) z) (Nat.lt_irrefl _)
  have cellK : ∀ x c, X.env.cells.lookup x = some c → ∀ v, s.heap.IsCell c v → h'.IsCell c v := fun x c e v ⟨o, ho, hd⟩ => by
    have nch : c ∉ ch := fun z => (hch c z).2.2.1 x c e rfl
    by_cases hc : c ∈ X.fs
    · obtain ⟨sl, q⟩ := slot c o (I.cne x c e) hc nch ho (I.freeC x c e)
      exact ⟨_, q, hd⟩
    · exact ⟨o, keep c o (I.cne x c e) hc nch ho (I.freeC x c e), hd⟩
  refine ⟨I.ok, I.os, hg, ⟨fun b o e n hb hx => ?_, fun b o e n hb hx => ?_, fun b o e n hx => ?_, fun b o e hx => ?_, fun b xs e => tups b xs (I.base.tups b xs e), fun b o xs e => frzs b o xs (I.base.frzs b o xs e), fun b ps e => ?_⟩, ?_, fun x c e => ?_, ?_, fun x c e => ?_, fun p hp => ?_, hok, I.len⟩
  · exact keep b o (neL b o e) hb (neC b o e hx) (I.base.keep b o e n hb hx) (I.base.free b o e n hx)
  · obtain ⟨sl, e1⟩ := I.base.slot b o e n hb hx
    obtain ⟨sl', e2⟩ := slot b _ (neL b o e) hb (neC b o e hx) e1 (I.base.free b o e n hx)
    exact ⟨sl', e2⟩
  · obtain ⟨o', e1⟩ := I.base.there b o e hx
    exact free b o' (neC b o e hx) e1 (I.base.free b o e n hx)
  · obtain ⟨o', e1⟩ := I.base.there b o e hx
    exact there b o' (neC b o e hx) e1
  · obtain ⟨m1, e1⟩ := I.base.tbls b ps e
    obtain ⟨m2, e2⟩ := tbls b _ e1
    exact ⟨m1 ++ m2, by rw [e2, Array.append_assoc]⟩
  · obtain ⟨m, hn, hl⟩ := I.loc
    refine ⟨m, ns m hn, fun i x v e1 e2 e3 => ?_⟩
    obtain ⟨u, r, l⟩ := hl i x v e1 e2 e3
    refine ⟨u, r, ?_⟩
    rcases l with l | ⟨k, c, e, z⟩
    · exact .inl l
    · exact .inr ⟨k, c, e, cellK x c e _ z⟩
  · obtain ⟨v, z⟩ := I.cell x c e
    exact ⟨v, cellK x c e v z⟩
  · obtain ⟨m, ⟨o, _, _, ho, _⟩, _⟩ := I.loc
    exact free _ o (fun z => (hch _ z).2.1 rfl) ho I.free
  · obtain ⟨v, o, ho, hd⟩ := I.cell x c e
    exact free c o (fun z => (hch c z).2.2.1 x c e rfl) ho (I.freeC x c e)
  · obtain ⟨e, n, ne, nf, d⟩ := I.pin p hp
    have nch : p.1 ∉ ch := fun z => (hch p.1 z).2.2.2 p hp rfl
    exact ⟨keep p.1 p.2 ne nf nch e n, free p.1 p.2 nch e n, ne, nf, d⟩
theorem Inv.un {t' : Nat} (I : Inv X pins σ H s) (u : Un X.fs [] H H' s.heap h') (hok : HOk X.prog X.w H' h') : Inv X pins σ H' { s with heap := h', toks := t' } := by
  obtain ⟨m, ⟨o, es, ep, ho, r⟩, _⟩ := id I.loc
  obtain ⟨sl, hL⟩ := u.any ho I.free (by simp)
  exact I.step (g' := s.gens) (d' := s.drawn) (ch := []) (fun _ z => nomatch z) (fun b o _ hb _ e n => u.keep b o e n hb (by simp)) (fun b o _ hb _ e n => u.slot b o e n hb (by simp)) (fun b o _ e n => u.free b o e n (by simp)) (fun b o _ e => u.there b o e (by simp)) u.tups u.frzs u.tbls (fun m' hm => by
    obtain ⟨o', es', ep', ho', r'⟩ := hm
    rw [ho] at ho'; cases ho'
    exact ⟨_, es', ep', hL, r'⟩) hok I.bare
theorem Inv.call {g' : Array GenState} {t' : Nat} {d' : Drawn} {ch : List Addr} (I : Inv X pins σ H s) (u : Un (frs X.stack) ch H H' s.heap h') (hok : HOk X.prog X.w H' h') (hg : AllBare g')
    (hch : ∀ b ∈ ch, (b ∈ X.ex ∨ X.s₀.heap.objs.size ≤ b) ∧ b ≠ X.env.locals ∧ (∀ x c, X.env.cells.lookup x = some c → c ≠ b) ∧ ∀ p ∈ X.pn ++ pins, p.1 ≠ b) :
    Inv X pins σ H' { s with heap := h', gens := g', drawn := d', toks := t' } := by
  obtain ⟨m, ⟨o, es, ep, ho, r⟩, _⟩ := id I.loc
  obtain ⟨sl, hL⟩ := u.any ho I.free fun z => (hch _ z).2.1 rfl
  exact I.step (ch := ch) hch (fun b o hL hb hc e n => u.keep b o e n (fun z => (List.mem_cons.mp (I.stkSub b z)).elim hL hb) hc) (fun b o _ _ hc e n => u.any e n hc) (fun b o hc e n => u.free b o e n hc) (fun b o hc e => u.there b o e hc) u.tups u.frzs u.tbls (fun m' hm => by
    obtain ⟨o', es', ep', ho', r'⟩ := hm
    rw [ho] at ho'; cases ho'
    exact ⟨_, es', ep', hL, r'⟩) hok hg
theorem Inv.turned {t' : Nat} {it : Addr} (I : Inv X pins σ H s) (k : ∀ b o, b ≠ it → s.heap.get? b = some o → h'.get? b = some o) (hn : H it = none) (hL : it ≠ X.env.locals)
    (h1 : it ∈ X.ex ∨ X.s₀.heap.objs.size ≤ it) (h2 : ∀ x c, X.env.cells.lookup x = some c → c ≠ it) (h3 : ∀ p ∈ X.pn ++ pins, p.1 ≠ it) : Inv X pins σ H { s with heap := h', toks := t' } := by
  have nit : ∀ b u, H b = some u → b ≠ it := fun b u e z => by rw [z, hn] at e; cases e
  refine I.step (g' := s.gens) (d' := s.drawn) (ch := [it]) (fun b hb => ?_) (fun b o _ _ hc e _ => k b o (fun z => hc (by simp [z])) e) (fun b o _ _ hc e _ => ⟨o.slots, k b o (fun z => hc (by simp [z])) e⟩) (fun _ _ _ _ n => n)
    (fun b o hc e => ⟨o, k b o (fun z => hc (by simp [z])) e⟩) (fun _ _ e => e) (fun _ _ _ e => e) (fun b ps e => ⟨#[], by rw [e]; simp⟩) (fun m hm => ?_) (fun b u e => ?_) I.bare
  · have e : b = it := by simpa using hb
    subst e
    exact ⟨h1, hL, h2, h3⟩
  · obtain ⟨o, es, ep, ho, r⟩ := hm
    exact ⟨o, es, ep, k _ o (Ne.symm hL) ho, r⟩
  · refine (I.hok b u e).stay (fun c v hc q => k c v ?_ q) (fun _ q => q) fun _ _ q => q
    rcases hc with z | z
    · rw [z]; exact nit b u e
    · exact nit c _ z
theorem Inv.tok (I : Inv X pins σ H s) (t : Nat) : Inv X pins σ H { s with toks := t } := I.un (h' := s.heap) (t' := t) Un.refl I.hok
theorem Inv.kept {t' : Nat} (I : Inv X pins σ H s) (k : ∀ b u, s.heap.get? b = some u → h'.get? b = some u) : Inv X pins σ H { s with heap := h', toks := t' } := I.un (Un.kept k) (I.hok.kept k)
theorem Inv.laid {a : Addr} {o : HO} {t' : Nat} (I : Inv X pins σ H s) (k : ∀ b u, s.heap.get? b = some u → h'.get? b = some u) (hp : s.heap.objs.size ≤ a) (new : ObjOk X.prog X.w (upd H a o) h' a o) :
    Inv X pins σ (upd H a o) { s with heap := h', toks := t' } := I.un (Un.laid k hp (I.hok.fresh hp)) (I.hok.laid k hp new)
theorem Inv.write {x e : Addr} {o : HO} {t' : Nat} (I : Inv X pins σ H s) (mu : Mut (H x)) (he : e = x ∨ H e = some (.own x)) (k : ∀ b u, b ≠ e → s.heap.get? b = some u → h'.get? b = some u) (heo : ∃ u, h'.get? e = some u)
    (new : ObjOk X.prog X.w (upd H x o) h' x o) : Inv X pins σ (upd H x o) { s with heap := h', toks := t' } := I.un (Un.write mu he k heo) (I.hok.write mu he k heo new)
theorem Inv.pins_of {pins' : List (Addr × Obj)} (I : Inv X pins σ H s) (h : ∀ p ∈ pins', s.heap.get? p.1 = some p.2 ∧ H p.1 = none ∧ p.1 ≠ X.env.locals ∧ p.1 ∉ X.fs ∧ ∀ v, p.2.data ≠ .cell v) : Inv X pins' σ H s :=
  ⟨I.ok, I.os, I.bare, I.base, I.loc, I.cell, I.free, I.freeC, fun p hp => (List.mem_append.mp hp).elim (fun z => I.pin p (List.mem_append_left _ z)) (h p), I.hok, I.len⟩
theorem nodup_ix {N : List Str} (hN : N.Nodup) {i j : Nat} {x : Str} (a : N[i]? = some x) (b : N[j]? = some x) : i = j := by
  obtain ⟨h1, e1⟩ := List.getElem?_eq_some_iff.mp a
  obtain ⟨h2, e2⟩ := List.getElem?_eq_some_iff.mp b
  exact (List.getElem_inj hN).mp (e1.trans e2.symm)
theorem store_ok2 {M : Model} {A : Around} {E : Value → Shared → Prop} {i : Nat} {x : Str} {v : V} {u : Value} {Q : Unit → Shared → Prop} (I : Inv X pins σ H s) (hN : X.N.Nodup) (hi : X.N[i]? = some x) (hx : Loc X.env.scope x) (r : RelV v u)
    (h : ∀ s', Inv X pins (σ.set i (some v)) H s' → (∃ a, Heap.SameBut a s.heap s'.heap ∧ (a = X.env.locals ∨ X.env.cells.lookup x = some a)) → Q () s') (hf : X.fn x = true ∨ X.env.scope.names.lookup x = some .local := by first | exact .inl rfl | exact .inr rfl | assumption) : wpAny M A (storeName X.env x u) Q E s := by
  obtain ⟨m, hn, hl⟩ := id I.loc
  have hcls : (X.env.scope.kind == .class || (X.env.scope.kind == .module && X.env.locals != X.env.globals)) = false := by rw [I.ok.kind]; rfl
  have hiσ : i < σ.length := by rw [I.len]; exact (List.getElem?_eq_some_iff.mp hi).1
  have cne := I.cne
  have tracked : ∀ {a : Addr} {h' : Heap}, (∃ o, s.heap.get? a = some o ∧ H a = none) → Heap.SameBut a s.heap h' → HOk X.prog X.w H h' := fun {a h'} ha hs b ob e => by
    obtain ⟨_, _, hfree⟩ := ha
    refine (I.hok b ob e).stay (fun c w' hc q => (hs.2 c ?_).trans q) (fun _ q => q) fun _ _ q => q
    rintro rfl
    rcases hc with rfl | hc
    · rw [hfree] at e; cases e
    · rw [hfree] at hc; cases hc
  rcases hx with hk | hk
  · refine wpAny_storeName_local hk hn (fun h' hn' hs => ?_) hcls
    obtain ⟨oL, _, _, hoL, _⟩ := id hn
    refine h _ ⟨I.ok, I.os, I.bare, ⟨fun b o e n hb hx => ?_, fun b o e n hb hx => ?_, I.base.free, fun b o e hx => ?_, I.base.tups, I.base.frzs, I.base.tbls⟩, ⟨_, hn', fun j y v' e1 e2 e3 => ?_⟩, fun y c e => ?_, I.free, I.freeC, fun p hp => ?_, tracked ⟨oL, hoL, I.free⟩ hs, by simpa using I.len⟩ ⟨_, hs, .inl rfl⟩
    · exact (hs.2 b (Nat.ne_of_lt (Nat.lt_of_lt_of_le (Heap.lt_size e) I.ok.above))).trans (I.base.keep b o e n hb hx)
    · obtain ⟨sl, e1⟩ := I.base.slot b o e n hb hx
      exact ⟨sl, (hs.2 b (Nat.ne_of_lt (Nat.lt_of_lt_of_le (Heap.lt_size e) I.ok.above))).trans e1⟩
    · obtain ⟨o', e1⟩ := I.base.there b o e hx
      exact ⟨o', (hs.2 b (Nat.ne_of_lt (Nat.lt_of_lt_of_le (Heap.lt_size e) I.ok.above))).trans e1⟩
    · by_cases hj : j = i
      · subst hj
        rw [hi] at e1; cases e1
        rw [List.getElem?_set_self hiσ] at e2
        cases e2
        exact ⟨u, r, .inl ⟨hk, by simp⟩⟩
      · rw [List.getElem?_set_ne (Ne.symm hj)] at e2
        obtain ⟨u', r', q⟩ := hl j y v' e1 e2 e3
        refine ⟨u', r', ?_⟩
        rcases q with ⟨k, e⟩ | ⟨k, c, e, z⟩
        · refine .inl ⟨k, ?_⟩
          have : y ≠ x := fun e => hj (nodup_ix hN e1 (e ▸ hi))
          simp [this, e]
        · exact .inr ⟨k, c, e, z.sameBut hs (cne y c e)⟩
    · obtain ⟨w', z⟩ := I.cell y c e
      exact ⟨w', z.sameBut hs (cne y c e)⟩
    · obtain ⟨e, n, ne, nf, d⟩ := I.pin p hp
      exact ⟨(hs.2 p.1 ne).trans e, n, ne, nf, d⟩
  · have hfn : X.fn x = true := by
      rcases hf with z | z
      · exact z
      · rw [z] at hk; cases hk
    obtain ⟨c, hc⟩ := I.ok.has x (.inl hk)
    obtain ⟨w', z⟩ := I.cell x c hc
    refine wpAny_storeName_cell I.ok.kind hk hc z (fun h' hc' hs => ?_)
    obtain ⟨oc, hoc, hocd⟩ := id z
    refine h { s with heap := h' } ⟨I.ok, I.os, I.bare, ⟨fun b o e n hb hx => ?_, fun b o e n hb hx => ?_, I.base.free, fun b o e hx => ?_, I.base.tups, I.base.frzs, I.base.tbls⟩, ⟨m, hn.sameBut hs (Ne.symm (cne x c hc)), fun j y v' e1 e2 e3 => ?_⟩, fun y c' e => ?_, I.free, I.freeC, fun p hp => ?_, tracked ⟨oc, hoc, I.freeC x c hc⟩ hs, by simpa using I.len⟩ ⟨c, hs, .inr hc⟩
    · exact (hs.2 b (Nat.ne_of_lt (Nat.lt_of_lt_of_le (Heap.lt_size e) (I.ok.cab x c hfn hc)))).trans (I.base.keep b o e n hb hx)
    · obtain ⟨sl, e1⟩ := I.base.slot b o e n hb hx
      exact ⟨sl, (hs.2 b (Nat.ne_of_lt (Nat.lt_of_lt_of_le (Heap.lt_size e) (I.ok.cab x c hfn hc)))).trans e1⟩
    · obtain ⟨o', e1⟩ := I.base.there b o e hx
      exact ⟨o', (hs.2 b (Nat.ne_of_lt (Nat.lt_of_lt_of_le (Heap.lt_size e) (I.ok.cab x c hfn hc)))).trans e1⟩
    · by_cases hj : j = i
      · subst hj
        rw [hi] at e1; cases e1
        rw [List.getElem?_set_self hiσ] at e2
        cases e2
        exact ⟨u, r, .inr ⟨.inl hk, c, hc, hc'⟩⟩
      · rw [List.getElem?_set_ne (Ne.symm hj)] at e2
        obtain ⟨u', r', q⟩ := hl j y v' e1 e2 e3
        refine ⟨u', r', ?_⟩
        rcases q with q | ⟨k, c', e, z'⟩
        · exact .inl q
        · refine .inr ⟨k, c', e, z'.sameBut hs ?_⟩
          rintro rfl
          exact hj (nodup_ix hN e1 (I.ok.inj _ _ _ e hc ▸ hi))
    · by_cases hcc : c' = c
      · subst hcc; exact ⟨_, hc'⟩
      · obtain ⟨w2, z2⟩ := I.cell y c' e
        exact ⟨w2, z2.sameBut hs hcc⟩
    · obtain ⟨e, n, ne, nf, d⟩ := I.pin p hp
      refine ⟨(hs.2 p.1 ?_).trans e, n, ne, nf, d⟩
      intro q
      rw [q, hoc] at e
      have q' : oc = p.2 := Option.some.inj e
      exact d w' (by rw [← q']; exact hocd)
theorem store_ok {M : Model} {A : Around} {E : Value → Shared → Prop} {i : Nat} {x : Str} {v : V} {u : Value} {Q : Unit → Shared → Prop} (I : Inv X pins σ H s) (hN : X.N.Nodup) (hi : X.N[i]? = some x) (hx : Loc X.env.scope x) (r : RelV v u)
    (h : ∀ s', Inv X pins (σ.set i (some v)) H s' → Q () s') (hf : X.fn x = true ∨ X.env.scope.names.lookup x = some .local := by first | exact .inl rfl | exact .inr rfl | assumption) : wpAny M A (storeName X.env x u) Q E s :=
  store_ok2 I hN hi hx r (fun s' I' _ => h s' I') hf
theorem Inv.call' {s' : Shared} {ch : List Addr} (I : Inv X pins σ H s) (ho : s'.os = s.os) (u : Un (frs X.stack) ch H H' s.heap s'.heap) (hok : HOk X.prog X.w H' s'.heap) (hg : AllBare s'.gens)
    (hch : ∀ b ∈ ch, (b ∈ X.ex ∨ X.s₀.heap.objs.size ≤ b) ∧ b ≠ X.env.locals ∧ (∀ x c, X.env.cells.lookup x = some c → c ≠ b) ∧ ∀ p ∈ X.pn ++ pins, p.1 ≠ b) : Inv X pins σ H' s' := by
  obtain ⟨h', g', d', t', o'⟩ := s'
  have e : o' = s.os := ho
  subst e
  exact I.call (g' := g') (t' := t') (d' := d') u hok hg hch
end
abbrev XK := Value → Option Addr → Hp → Prop
abbrev St := List (Option V)
abbrev VK := V → Hp → Prop
abbrev TE := St → Hp → VK → Prop
abbrev TT := St → Hp → (Bool → Hp → Prop) → Prop
abbrev TA := St → Hp → (List V → Hp → Prop) → Prop
structure Ends where
  nx : St → Hp → Prop
  rt : VK
  bk : St → Hp → Prop := fun _ _ => False
  ct : St → Hp → Prop := fun _ _ => False
abbrev TS := Ends → St → Hp → Prop
def EP (X : Cx) (pins : List (Addr × Obj)) (σ : St) (Q : VK) (u : Value) (s' : Shared) : Prop := ∃ v H', Inv X pins σ H' s' ∧ RelV v u ∧ Q v H'
def TP (X : Cx) (pins : List (Addr × Obj)) (σ : St) (Q : Bool → Hp → Prop) (b : Bool) (s' : Shared) : Prop := ∃ H', Inv X pins σ H' s' ∧ Q b H'
def AP (X : Cx) (pins : List (Addr × Obj)) (σ : St) (Q : List V → Hp → Prop) (us : List Value) (s' : Shared) : Prop := ∃ vs H', Inv X pins σ H' s' ∧ Vals vs us ∧ Q vs H'
def SP (X : Cx) (pins : List (Addr × Obj)) (D : Ends) (f : Flow) (s' : Shared) : Prop :=
  match f with
  | .next => ∃ σ' H', Inv X pins σ' H' s' ∧ D.nx σ' H'
  | .brk => ∃ σ' H', Inv X pins σ' H' s' ∧ D.bk σ' H'
  | .cont => ∃ σ' H', Inv X pins σ' H' s' ∧ D.ct σ' H'
  | .ret u => ∃ v σ' H', Inv X pins σ' H' s' ∧ RelV v u ∧ D.rt v H'
def PE (X : Cx) (e : Expr) (t : TE) : Prop :=
  ∀ (pins : List (Addr × Obj)) (s : Shared) (σ : St) (H : Hp) (Q : VK), Inv X pins σ H s → t σ H Q → wpAny (model X.prog X.w) X.A (eval e X.env) (EP X pins σ Q) X.xe s
def PT (X : Cx) (e : Expr) (t : TT) : Prop :=
  ∀ (pins : List (Addr × Obj)) (s : Shared) (σ : St) (H : Hp) (Q : Bool → Hp → Prop), Inv X pins σ H s → t σ H Q → wpAny (model X.prog X.w) X.A (isTrue e X.env (eval e X.env)) (TP X pins σ Q) X.xe s
def PW (X : Cx) (e : Expr) (t : TT) : Prop :=
  ∀ (whole : Sem Value) (pins : List (Addr × Obj)) (s : Shared) (σ : St) (H : Hp) (Q : Bool → Hp → Prop), Inv X pins σ H s → t σ H Q → wpAny (model X.prog X.w) X.A (isTrue e X.env whole) (TP X pins σ Q) X.xe s
theorem PW.pt {X : Cx} {e : Expr} {t : TT} (h : PW X e t) : PT X e t := h _
def PA (X : Cx) (es : List Expr) (t : TA) : Prop :=
  ∀ (pos : Pos) (pins : List (Addr × Obj)) (s : Shared) (σ : St) (H : Hp) (Q : List V → Hp → Prop), Inv X pins σ H s → t σ H Q → wpAny (model X.prog X.w) X.A (spliced (backTo pos (starEach es X.env))) (AP X pins σ Q) X.xe s
def PS (X : Cx) (st : Stmt) (t : TS) : Prop :=
  ∀ (pins : List (Addr × Obj)) (s : Shared) (σ : St) (H : Hp) (D : Ends), Inv X pins σ H s → t D σ H → wpAny (model X.prog X.w) X.A (exec st X.env) (SP X pins D) X.xe s
def PSs (X : Cx) (st : List Stmt) (t : TS) : Prop :=
  ∀ (pins : List (Addr × Obj)) (s : Shared) (σ : St) (H : Hp) (D : Ends), Inv X pins σ H s → t D σ H → wpAny (model X.prog X.w) X.A (execs st X.env) (SP X pins D) X.xe s
theorem thn {α : Type} {t : Sem α} {Q Q' : α → Shared → Prop} {M : Model} {A : Around} {E : Value → Shared → Prop} {s : Shared} (h : wpAny M A t Q E s) (hQ : ∀ a s, Q a s → Q' a s) : wpAny M A t Q' E s := wpAny_mono h hQ fun _ _ x => x
end L2
namespace L2
open PySem PySem.Spec PyProof.Rows
section
variable {X : Cx}
def tVar (i : Nat) : TE := fun σ H Q => ∃ v, σ[i]? = some (some v) ∧ Q v H
def tC (v : V) : TE := fun _ H Q => Q v H
theorem pe_var {i : Nat} {x : Str} {pos : Pos} (hN : X.N[i]? = some x) (hv : Vis X.env.scope x) (hd : (x == ("__debug__" : Str)) = false := by decide) (hcd : (x == ("__classdict__" : Str)) = false := by decide) : PE X (.Name x pos) (tVar i) := by
  intro pins s σ H Q I h
  obtain ⟨v, e, h⟩ := h
  obtain ⟨m, hn, hl⟩ := I.loc
  obtain ⟨u, r, l⟩ := hl i x v hN e hv
  have fin : EP X pins σ Q u s := ⟨v, H, I, r, h⟩
  rcases l with ⟨hk, hm⟩ | ⟨hk, c, hc, hcell⟩
  · exact wpAny_Name (wpAny_loadName_local I.ok.kind hk hn hm fin) hd
  · rcases hk with hk | hk
    · exact wpAny_Name (wpAny_loadName_cell I.ok.kind hk hc hcell fin) hd
    · exact wpAny_Name (wpAny_loadName_free I.ok.kind hk hc hcell fin hcd) hd
theorem pe_int {i j pos} : PE X (.Constant (.int i) j pos) (tC (.int i)) := fun _ _ _ H _ I h => wpAny_Constant_int ⟨.int i, H, I.tok _, ⟨_, rfl⟩, h⟩
theorem pe_bl {b j pos} : PE X (.Constant (.bool b) j pos) (tC (.bl b)) := fun _ _ _ H _ I h => Constant_bool ⟨.bl b, H, I, rfl, h⟩
theorem pe_non {j pos} : PE X (.Constant .none j pos) (tC .non) := fun _ _ _ H _ I h => Constant_none ⟨.non, H, I, rfl, h⟩
theorem pe_str {x j pos} : PE X (.Constant (.str x) j pos) (tC (.str x)) := fun _ _ _ H _ I h => Calls.Constant_str ⟨.str x, H, I.tok _, ⟨_, rfl⟩, h⟩
def Gl (X : Cx) (x : Str) : Prop := X.env.kindOf x = some .globalImplicit
theorem ld_glob {E : Value → Shared → Prop} {pins : List (Addr × Obj)} {s : Shared} {σ : St} {H : Hp} {x : Str} {u : Value} {pos : Pos} {Q : Value → Shared → Prop} (I : Inv X pins σ H s) (hg : Gl X x) (hm : X.mg x = some u) (h : Q u s)
    (hd : (x == ("__debug__" : Str)) = false := by decide) : wpAny (model X.prog X.w) X.A (eval (.Name x pos) X.env) Q E s :=
  Calls.Name_function_global I.ok.kind hg (Calls.loadGlobal_global (by rw [I.ok.glob]; exact I.mod.glob.keeps I.bk) hm h) hd
theorem ld_blt {E : Value → Shared → Prop} {pins : List (Addr × Obj)} {s : Shared} {σ : St} {H : Hp} {x : Str} {u : Value} {pos : Pos} {Q : Value → Shared → Prop} (I : Inv X pins σ H s) (hg : Gl X x) (hm : X.mg x = none) (hv : bootBuiltins x = some u) (h : Q u s)
    (hn : x ≠ "__name__" := by decide) (hd : (x == ("__debug__" : Str)) = false := by decide) : wpAny (model X.prog X.w) X.A (eval (.Name x pos) X.env) Q E s := by
  obtain ⟨mb, h1, h2⟩ := I.mod.blt
  exact Calls.Name_function_global I.ok.kind hg (Calls.loadGlobal_builtin (by rw [I.ok.glob]; exact I.mod.glob.keeps I.bk) hm (by rw [I.ok.blt]; exact h1.keeps I.bk) ((h2 x hn).trans hv) h) hd
theorem pe_glob {x : Str} {v : V} {u : Value} {pos : Pos} (hg : Gl X x) (hm : X.mg x = some u) (r : RelV v u) (hd : (x == ("__debug__" : Str)) = false := by decide) : PE X (.Name x pos) (tC v) :=
  fun _ _ _ H _ I h => ld_glob I hg hm ⟨v, H, I, r, h⟩ hd
theorem pe_bltn {x : Str} {v : V} {u : Value} {pos : Pos} (hg : Gl X x) (hm : X.mg x = none) (hv : bootBuiltins x = some u) (r : RelV v u) (hn : x ≠ "__name__" := by decide) (hd : (x == ("__debug__" : Str)) = false := by decide) : PE X (.Name x pos) (tC v) :=
  fun _ _ _ H _ I h => ld_blt I hg hm hv ⟨v, H, I, r, h⟩ hn hd
variable {a b : Expr} {ta tb : TE} {pos : Pos}
theorem nobehind (b : Expr) {op : CmpOp} (h : op ≠ .In) (h2 : op ≠ .NotIn) : behindInMarks op b = false := by
  have e1 : (op == CmpOp.In) = false := by cases op <;> first | rfl | exact absurd rfl h
  have e2 : (op == CmpOp.NotIn) = false := by cases op <;> first | rfl | exact absurd rfl h2
  cases b <;> simp [behindInMarks, e1, e2]
def tB (t : TE) : TT := fun σ H Q => t σ H fun x H1 => ∃ c, x = .bl c ∧ Q c H1
theorem pt_val {e : Expr} {t : TE} (h : PE X e t) (he : ∀ whole, isTrue e X.env whole = (do let v ← whole; standAt e.pos; holding [v] (truthy v)) := by intro _; rfl) : PT X e (tB t) := by
  intro pins s σ H Q I hw
  refine isTrue_plain (thn (h pins s σ H _ I hw) fun v s1 ⟨x, H1, I1, r1, q1⟩ => ?_) (he _)
  obtain ⟨d, rfl, q⟩ := q1
  cases r1
  exact wpAny_truthy_bool ⟨H1, I1, q⟩
variable {tA tB' : TT} {rest : List Expr}
def tAnd (t u : TT) : TT := fun σ H Q => t σ H fun c H1 => if c = true then u σ H1 Q else Q false H1
def tOr (t u : TT) : TT := fun σ H Q => t σ H fun c H1 => if c = true then Q true H1 else u σ H1 Q
def tNot (t : TT) : TT := fun σ H Q => t σ H fun c H1 => Q (!c) H1
theorem pw_and1 (ha : PT X a tA) : PW X (.BoolOp .And [a] pos) tA := by
  intro wh pins s σ H Q I h
  refine isTrue_and (thn (ha pins s σ H Q I h) fun c s1 e => ?_)
  cases c with
  | true => exact isTrue_and_nil e
  | false => exact e
theorem pw_or1 (ha : PT X a tA) : PW X (.BoolOp .Or [a] pos) tA := by
  intro wh pins s σ H Q I h
  refine isTrue_or (thn (ha pins s σ H Q I h) fun c s1 e => ?_)
  cases c with
  | false => exact isTrue_or_nil e
  | true => exact e
theorem pw_and (ha : PT X a tA) (hb : PW X (.BoolOp .And (b :: rest) pos) tB') : PW X (.BoolOp .And (a :: b :: rest) pos) (tAnd tA tB') := by
  intro wh pins s σ H Q I h
  refine isTrue_and (thn (ha pins s σ H _ I h) fun c s1 ⟨H1, I1, q1⟩ => ?_)
  cases c with
  | true => exact hb wh pins s1 σ H1 Q I1 q1
  | false => exact ⟨H1, I1, q1⟩
theorem pw_or (ha : PT X a tA) (hb : PW X (.BoolOp .Or (b :: rest) pos) tB') : PW X (.BoolOp .Or (a :: b :: rest) pos) (tOr tA tB') := by
  intro wh pins s σ H Q I h
  refine isTrue_or (thn (ha pins s σ H _ I h) fun c s1 ⟨H1, I1, q1⟩ => ?_)
  cases c with
  | true => exact ⟨H1, I1, q1⟩
  | false => exact hb wh pins s1 σ H1 Q I1 q1
theorem pt_not (ha : PT X a tA) : PT X (.UnaryOp .Not a pos) (tNot tA) := by
  intro pins s σ H Q I h
  exact isTrue_not (ha pins s σ H (fun c H1 => Q (!c) H1) I h)
def tAndV (ta tb : TE) : TE := fun σ H Q => ta σ H fun x H1 => ∃ c, x = .bl c ∧ if c = true then tb σ H1 Q else Q (.bl false) H1
def tNotV (ta : TE) : TE := fun σ H Q => ta σ H fun x H1 => ∃ c, x = .bl c ∧ Q (.bl (!c)) H1
theorem pe_one {op} {t : TE} (h : PE X a t) : PE X (.BoolOp op [a] pos) t := fun pins s σ H Q I hw => BoolOp_one (h pins s σ H Q I hw)
theorem pe_and (ha : PE X a ta) (hb : PE X (.BoolOp .And (b :: rest) pos) tb) : PE X (.BoolOp .And (a :: b :: rest) pos) (tAndV ta tb) := by
  intro pins s σ H Q I h
  refine BoolOp_and (thn (ha pins s σ H _ I h) fun v s1 ⟨x, H1, I1, r1, q1⟩ => ?_)
  obtain ⟨c, rfl, q1⟩ := q1
  cases r1
  refine wpAny_truthy_bool ?_
  cases c with
  | true => exact hb pins s1 σ H1 Q I1 q1
  | false => exact ⟨.bl false, H1, I1, rfl, q1⟩
theorem pe_not (ha : PE X a ta) : PE X (.UnaryOp .Not a pos) (tNotV ta) := by
  intro pins s σ H Q I h
  refine UnaryOp_ (thn (ha pins s σ H _ I h) fun v s1 ⟨x, H1, I1, r1, q1⟩ => ?_)
  obtain ⟨c, rfl, q1⟩ := q1
  cases r1
  exact not_of (wpAny_truthy_bool ⟨.bl (!c), H1, I1, rfl, q1⟩)
end
end L2
namespace L2
open PySem PySem.Spec PyProof.Rows
def SqL (K : PySem.W.Frag) (H : Hp) (a : Addr) (xs : List V) : Prop :=
  Rd H a (.lst xs) ∨
    ∃ (o : Obj) (its : Array Value) (n : Nat), K.lookup a = some o ∧ o.cls = .type "list" ∧ o.dict = none ∧ o.data = .seq its n ∧ its.size ≤ sizeLine ∧ Vals xs its.toList
def SqT (K : PySem.W.Frag) (H : Hp) (a : Addr) (xs : List V) : Prop :=
  Rd H a (.tup xs) ∨
    ∃ (o : Obj) (its : Array Value) (n : Nat), K.lookup a = some o ∧ o.cls = .type "tuple" ∧ o.data = .seq its n ∧ its.size ≤ sizeLine ∧ Vals xs its.toList
def absV : Value → Option V
  | .none => some .non
  | .bool b => some (.bl b)
  | .int i _ => some (.int i)
  | .str x _ => some (.str x)
  | .bytes b _ => some (.byt b)
  | .float b _ => some (.flt b)
  | .ref a => some (.ref a)
  | .type n => some (.ty n)
  | _ => none
theorem RelV.abs {x : V} {u : Value} (r : RelV x u) : absV u = some x := by
  cases x with
  | non => cases r; rfl
  | bl _ => cases r; rfl
  | int _ => obtain ⟨t, rfl⟩ := r; rfl
  | str _ => obtain ⟨t, rfl⟩ := r; rfl
  | byt _ => obtain ⟨t, rfl⟩ := r; rfl
  | flt _ => obtain ⟨t, rfl⟩ := r; rfl
  | ref _ => cases r; rfl
  | ty _ => cases r; rfl
theorem RelV.inj {x y : V} {u : Value} (r : RelV x u) (q : RelV y u) : x = y := Option.some.inj (r.abs.symm.trans q.abs)
theorem Vals.inj : ∀ {xs ys : List V} {us : List Value}, Vals xs us → Vals ys us → xs = ys
  | _, _, _, .nil, .nil => rfl
  | _, _, _, .cons r t, .cons r' t' => by rw [r.inj r', Vals.inj t t']
section
variable {X : Cx} {pins : List (Addr × Obj)} {σ : St} {H : Hp} {s : Shared} {a : Addr} {xs ys : List V}
theorem SqL.of {K : PySem.W.Frag} (h : H a = some (.lst xs)) : SqL K H a xs := .inl (.inl h)
theorem SqT.of {K : PySem.W.Frag} (h : H a = some (.tup xs)) : SqT K H a xs := .inl (.inl h)
theorem Inv.list (I : Inv X pins σ H s) (h : SqL X.K H a xs) : ∃ its : List Value, Vals xs its ∧ PlainL s.heap a its.toArray ∧ xs.length ≤ sizeLine := by
  rcases h with h | ⟨o, its, n, hk, hc, hd, hs, hz, r⟩
  · obtain ⟨z, its, n, r, e⟩ := h.ok I.hok
    exact ⟨its, r, ⟨_, n, e, rfl, rfl, rfl⟩, z⟩
  · refine ⟨its.toList, r, ⟨o, n, I.kIn a o hk, hc, hd, by simpa using hs⟩, ?_⟩
    have e := r.length
    simp only [Array.length_toList] at e
    omega
theorem Inv.tuple (I : Inv X pins σ H s) (h : SqT X.K H a xs) : ∃ its : List Value, Vals xs its ∧ IsTup s.heap a its.toArray ∧ xs.length ≤ sizeLine := by
  rcases h with h | ⟨o, its, n, hk, hc, hs, hz, r⟩
  · obtain ⟨z, its, r, p⟩ := h.ok I.hok
    exact ⟨its, r, p, z⟩
  · refine ⟨its.toList, r, ⟨o, I.kIn a o hk, hc, n, by simpa using hs⟩, ?_⟩
    have e := r.length
    simp only [Array.length_toList] at e
    omega
theorem Inv.list_inj (I : Inv X pins σ H s) (h : SqL X.K H a xs) (h' : SqL X.K H a ys) : xs = ys := by
  obtain ⟨its, r, ⟨o, n, e, _, _, d⟩, _⟩ := I.list h
  obtain ⟨its', r', ⟨o', n', e', _, _, d'⟩, _⟩ := I.list h'
  rw [e] at e'; cases e'
  rw [d] at d'
  injection d' with d1 _
  have : its = its' := by simpa using congrArg Array.toList d1
  subst this
  exact r.inj r'
theorem Inv.tuple_inj (I : Inv X pins σ H s) (h : SqT X.K H a xs) (h' : SqT X.K H a ys) : xs = ys := by
  obtain ⟨its, r, ⟨o, e, _, n, d⟩, _⟩ := I.tuple h
  obtain ⟨its', r', ⟨o', e', _, n', d'⟩, _⟩ := I.tuple h'
  rw [e] at e'; cases e'
  rw [d] at d'
  injection d' with d1 _
  have : its = its' := by simpa using congrArg Array.toList d1
  subst this
  exact r.inj r'
end
abbrev Cx.wish (X : Cx) (E : Value → Shared → Prop) : Cx := { X with xe := E }
abbrev Cx.nox (X : Cx) : Cx := X.wish fun _ _ => False
theorem Cx.Ok.wish {X : Cx} (ok : X.Ok) (E : Value → Shared → Prop) : (X.wish E).Ok :=
  ⟨ok.mod, ok.kind, ok.glob, ok.blt, ok.above, ok.inj, ok.has, ok.cab, ok.hd, ok.frames, ok.stk, ok.exf, ok.bs, ok.bsz, ok.noex, ok.exfs, ok.funs, ok.frf⟩
theorem Cx.Ok.unwish {X : Cx} {E : Value → Shared → Prop} (ok : (X.wish E).Ok) : X.Ok :=
  ⟨ok.mod, ok.kind, ok.glob, ok.blt, ok.above, ok.inj, ok.has, ok.cab, ok.hd, ok.frames, ok.stk, ok.exf, ok.bs, ok.bsz, ok.noex, ok.exfs, ok.funs, ok.frf⟩
section
variable {X : Cx} {pins : List (Addr × Obj)} {σ : St} {H : Hp} {s : Shared} {E : Value → Shared → Prop}
theorem Inv.wish (I : Inv X pins σ H s) (E : Value → Shared → Prop) : Inv (X.wish E) pins σ H s := ⟨I.ok.wish E, I.os, I.bare, I.base, I.loc, I.cell, I.free, I.freeC, I.pin, I.hok, I.len⟩
theorem Inv.unwish (I : Inv (X.wish E) pins σ H s) : Inv X pins σ H s := ⟨I.ok.unwish, I.os, I.bare, I.base, I.loc, I.cell, I.free, I.freeC, I.pin, I.hok, I.len⟩
theorem SP.unwish {D : Ends} {f : Flow} {s' : Shared} (h : SP (X.wish E) pins D f s') : SP X pins D f s' := by
  cases f with
  | next => obtain ⟨σ', H', I, q⟩ := h; exact ⟨σ', H', I.unwish, q⟩
  | brk => obtain ⟨σ', H', I, q⟩ := h; exact ⟨σ', H', I.unwish, q⟩
  | cont => obtain ⟨σ', H', I, q⟩ := h; exact ⟨σ', H', I.unwish, q⟩
  | ret u => obtain ⟨v, σ', H', I, r, q⟩ := h; exact ⟨v, σ', H', I.unwish, r, q⟩
theorem PSs.nox {st : List Stmt} {t : TS} (h : PSs X.nox st t) : PSs X st t := fun pins s σ H D I hw =>
  wpAny_mono (h pins s σ H D (I.wish _) hw) (fun _ _ q => q.unwish) fun _ _ z => False.elim z
end
section
variable {X : Cx} {st : Stmt} {rest : List Stmt} {t u : TS} {e : Expr} {te : TE} {pos : Pos}
def tNext : TS := fun D σ H => D.nx σ H
def tSeq (t u : TS) : TS := fun D σ H => t { D with nx := u D } σ H
theorem pss_nil : PSs X [] tNext := fun _ _ σ H _ I h => wpAny_execs_nil ⟨σ, H, I, h⟩
theorem pss_cons (h1 : PS X st t) (h2 : PSs X rest u) : PSs X (st :: rest) (tSeq t u) := by
  intro pins s σ H D I h
  refine wpAny_execs_cons (thn (h1 pins s σ H { D with nx := u D } I h) fun f s1 q => ?_)
  cases f with
  | next =>
    obtain ⟨σ', H', I', q⟩ := q
    exact h2 pins s1 σ' H' D I' q
  | ret v => exact q
  | brk => exact q
  | cont => exact q
theorem pss_one (h1 : PS X st t) : PSs X [st] t := by
  intro pins s σ H D I h
  refine wpAny_execs_cons (thn (h1 pins s σ H D I h) fun f s1 q => ?_)
  cases f with
  | next => exact wpAny_execs_nil q
  | ret v => exact q
  | brk => exact q
  | cont => exact q
theorem Inv.quiet {pins : List (Addr × Obj)} {σ : St} {H : Hp} {s : Shared} (I : Inv X pins σ H s) : interactive X.env = false := by simp [interactive, I.ok.kind]
def tDrop (te : TE) : TS := fun D σ H => te σ H fun _ H1 => D.nx σ H1
theorem ps_expr (he : PE X e te) (hs : swapsWith e none pos.line X.env = pure false := by rfl) : PS X (.Expr e pos) (tDrop te) := by
  intro pins s σ H D I h
  exact wpAny_Expr_any (thn (he pins s σ H _ I h) fun v s1 ⟨x, H1, I1, r1, q1⟩ => ⟨σ, H1, I1, q1⟩) I.quiet hs
def tRet (te : TE) : TS := fun D σ H => te σ H D.rt
theorem ps_ret (he : PE X e te) : PS X (.Return (some e) pos) (tRet te) := by
  intro pins s σ H D I h
  exact wpAny_Return_some (thn (he pins s σ H _ I h) fun v s1 ⟨x, H1, I1, r1, q1⟩ => ⟨x, σ, H1, I1, r1, q1⟩)
def tIfS (c : TT) (t u : TS) : TS := fun D σ H => c σ H fun b H1 => if b = true then t D σ H1 else u D σ H1
theorem ps_if {c : Expr} {a b : List Stmt} {tc : TT} (hc : PT X c tc) (ha : PSs X a t) (hb : PSs X b u) : PS X (.If c a b pos) (tIfS tc t u) := by
  intro pins s σ H D I h
  refine wpAny_If (thn (hc pins s σ H _ I h) fun d s1 ⟨H1, I1, q1⟩ => ?_)
  cases d with
  | true => exact ha pins s1 σ H1 D I1 q1
  | false => exact hb pins s1 σ H1 D I1 q1
end
abbrev TG := V → St → Hp → (St → Hp → Prop) → Prop
abbrev TGs := List V → St → Hp → (St → Hp → Prop) → Prop
def PG (X : Cx) (target : Expr) (t : TG) : Prop :=
  ∀ (pins : List (Addr × Obj)) (s : Shared) (σ : St) (H : Hp) (v : V) (u : Value) (Q : St → Hp → Prop), Inv X pins σ H s → RelV v u → t v σ H Q →
    wpAny (model X.prog X.w) X.A (assign target X.env u) (fun _ s' => ∃ σ' H', Inv X pins σ' H' s' ∧ Q σ' H') X.xe s
def PGs (X : Cx) (ts : List Expr) (t : TGs) : Prop :=
  ∀ (pins : List (Addr × Obj)) (s : Shared) (σ : St) (H : Hp) (vs : List V) (us : List Value) (Q : St → Hp → Prop), Inv X pins σ H s → Vals vs us → t vs σ H Q →
    wpAny (model X.prog X.w) X.A (assignInOrder ((assignEach ts X.env).map (·.2)) us) (fun _ s' => ∃ σ' H', Inv X pins σ' H' s' ∧ Q σ' H') X.xe s
section
variable {X : Cx} {pos : Pos}
def gName (i : Nat) : TG := fun v σ H Q => Q (σ.set i (some v)) H
theorem pg_name {i : Nat} {x : Str} (hN : X.N.Nodup) (hi : X.N[i]? = some x) (hx : Loc X.env.scope x) (hf : X.fn x = true ∨ X.env.scope.names.lookup x = some .local := by first | exact .inl rfl | exact .inr rfl | assumption) : PG X (.Name x pos) (gName i) := by
  intro pins s σ H v u Q I r h
  exact wpAny_assign_Name (store_ok I hN hi hx r (fun s' I' => ⟨_, H, I', h⟩) hf)
def gNil : TGs := fun vs σ H Q => vs = [] ∧ Q σ H
def gCons (t : TG) (u : TGs) : TGs := fun vs σ H Q => ∃ v r, vs = v :: r ∧ t v σ H fun σ' H' => u r σ' H' Q
theorem pgs_nil : PGs X [] gNil := by
  intro pins s σ H vs us Q I r h
  obtain ⟨e, h⟩ := h
  subst e
  cases r
  exact assignInOrder_nil ⟨σ, H, I, h⟩
theorem pgs_cons {e : Expr} {es : List Expr} {t : TG} {u : TGs} (h1 : PG X e t) (h2 : PGs X es u)
    (hs : (assignEach (e :: es) X.env).map (·.2) = assign e X.env :: (assignEach es X.env).map (·.2) := by rfl) : PGs X (e :: es) (gCons t u) := by
  intro pins s σ H vs us Q I r h
  obtain ⟨v, vr, e1, h⟩ := h
  subst e1
  cases r with
  | cons r rr =>
    rw [hs]
    refine assignInOrder_cons (thn (h1 pins s σ H _ _ _ I r h) fun _ s1 ⟨σ1, H1, I1, q1⟩ => ?_)
    exact h2 pins s1 σ1 H1 _ _ Q I1 rr q1
def gTup (K : PySem.W.Frag) (n : Nat) (t : TGs) : TG := fun v σ H Q => ∃ a xs, v = .ref a ∧ SqT K H a xs ∧ xs.length = n ∧ t xs σ H Q
theorem pg_tup {es : List Expr} {k : Nat} {t : TGs} {n : Nat} (hc : X.calm = true) (h : PGs X es t)
    (hn : (assignEach es X.env).length = n := by rfl) (hst : (assignEach es X.env).findIdx? (·.1) = none := by rfl) : PG X (.Tuple es k pos) (gTup X.K n t) := by
  intro pins s σ H v u Q I r hw
  obtain ⟨a, xs, e1, hq, hl, hw⟩ := hw
  subst e1
  cases r
  obtain ⟨its, rv, ht, hz⟩ := I.tuple hq
  refine assign_Tuple_tuple (I.ok.hd hc) ht (by simp [hn, ← hl, rv.length]) hst fun h' hx => ?_
  have I1 : Inv X pins σ H { s with heap := h' } := I.kept (t' := s.toks) fun b o e => hx b o (Nat.ne_of_lt (Heap.lt_size e)) e
  exact h pins _ σ H xs _ Q I1 (by simpa using rv) hw
def tAsg (te : TE) (g : TG) : TS := fun D σ H => te σ H fun x H1 => g x σ H1 D.nx
theorem ps_asg {tg e : Expr} {te : TE} {g : TG} (he : PE X e te) (hg : PG X tg g) (hs : swapsWithSole [tg] e pos.line X.env = pure false := by rfl) (hw : swappedStores [tg] e X.env = pure none := by rfl)
    (h1 : (assignEach [tg] X.env).map (·.2) = [assign tg X.env] := by rfl) : PS X (.Assign [tg] e pos) (tAsg te g) := by
  intro pins s σ H D I h
  refine wpAny_Assign_stores (thn (he pins s σ H _ I h) fun v s1 ⟨x, H1, I1, r1, q1⟩ => ?_) hs hw
  rw [h1]
  exact thn (hg pins s1 σ H1 x v _ I1 r1 q1) fun _ s2 q => q
theorem ps_set {i : Nat} {x : Str} {e : Expr} {te : TE} {pos' : Pos} (hN : X.N.Nodup) (hi : X.N[i]? = some x) (hx : Loc X.env.scope x) (he : PE X e te) (hs : swapsWith e (some (.Name x pos')) pos.line X.env = pure false := by rfl) (hf : X.fn x = true ∨ X.env.scope.names.lookup x = some .local := by first | exact .inl rfl | exact .inr rfl | assumption) :
    PS X (.Assign [.Name x pos'] e pos) (tAsg te (gName i)) := by
  intro pins s σ H D I h
  refine wpAny_Assign_Name (thn (he pins s σ H _ I h) fun v s1 ⟨y, H1, I1, r1, q1⟩ => ?_) hs
  exact store_ok I1 hN hi hx r1 (fun s2 I2 => ⟨_, H1, I2, q1⟩) hf
end
structure It where
  go : Nat → Hp → Prop
  yld : Nat → Hp → V → Hp → Prop
  stop : Nat → Hp → Prop
def FpOk (X : Cx) (pins : List (Addr × Obj)) (H : Hp) (b : Addr) : Prop :=
  H b = none ∧ b ≠ X.env.locals ∧ b ∉ X.fs ∧ (b ∈ X.ex ∨ X.s₀.heap.objs.size ≤ b) ∧ (∀ x c, X.env.cells.lookup x = some c → c ≠ b) ∧ ∀ p ∈ X.pn ++ pins, p.1 ≠ b
theorem Inv.fpOk {X : Cx} {pins : List (Addr × Obj)} {σ : St} {H H' : Hp} {s : Shared} {b : Addr} (I : Inv X pins σ H s) (hb : s.heap.objs.size ≤ b) (hn : H' b = none) : FpOk X pins H' b := by
  refine ⟨hn, Nat.ne_of_gt (Nat.lt_of_lt_of_le I.lt hb), I.nofs hb, .inr (Nat.le_trans I.sz hb), fun x c e z => ?_, fun p hp z => ?_⟩
  · obtain ⟨v, q⟩ := I.cell x c e
    exact absurd (Nat.lt_of_lt_of_le q.lt (by rw [z]; exact hb)) (Nat.lt_irrefl _)
  · exact absurd (Nat.lt_of_lt_of_le (Heap.lt_size (I.pin p hp).1) (by rw [z]; exact hb)) (Nat.lt_irrefl _)
structure Turn (P : Program) (w : World) (K : PySem.W.Frag) (tg : Expr) (J : It) (fp : List Addr) (it : Addr) (tn : Nat → Heap → Prop) : Prop where
  mem : it ∈ fp
  obj : ∀ i h, tn i h → ∀ b ∈ fp, ∃ o, h.get? b = some o ∧ ∀ v, o.data ≠ .cell v
  keep : ∀ i h h', tn i h → (∀ b ∈ fp, ∀ o, h.get? b = some o → h'.get? b = some o) → tn i h'
  item : ∀ (X : Cx), X.prog = P → X.w = w → X.K = K → X.calm = true → ∀ (i : Nat) (pins : List (Addr × Obj)) (s : Shared) (σ : St) (H : Hp) (E : Value → Shared → Prop), Inv X pins σ H s → (∀ b ∈ fp, FpOk X pins H b) → tn i s.heap → J.go i H →
    wpAny (model P w) X.A (pyNext (.ref it)) (fun r s1 => ∃ u, r = some u ∧
      wpAny (model P w) X.A (letOwnedTupleGo tg (.ref it) u) (fun _ s2 => ∃ x H', Inv X pins σ H' s2 ∧ RelV x u ∧ J.yld i H x H' ∧ tn (i + 1) s2.heap ∧ ∀ b ∈ fp, H' b = none) E s1) E s
  done : ∀ (X : Cx), X.prog = P → X.w = w → X.K = K → X.calm = true → ∀ (i : Nat) (pins : List (Addr × Obj)) (s : Shared) (σ : St) (H : Hp) (E : Value → Shared → Prop), Inv X pins σ H s → (∀ b ∈ fp, FpOk X pins H b) → tn i s.heap → J.stop i H →
    wpAny (model P w) X.A (pyNext (.ref it)) (fun r s1 => r = none ∧ Inv X pins σ H s1) E s
  self : ∀ (A : Around) (i : Nat) (s : Shared) (Q : Value → Shared → Prop) (E : Value → Shared → Prop), tn i s.heap → Q (.ref it) s → wpAny (model P w) A (pyIter (.ref it)) Q E s
abbrev TI := St → Hp → (It → Hp → Prop) → Prop
def PIE (X : Cx) (pins : List (Addr × Obj)) (σ : St) (tg : Expr) (R : It → Hp → Prop) (itv : Value) (s2 : Shared) : Prop :=
  ∃ (it : Addr) (fp : List Addr) (tn : Nat → Heap → Prop) (J : It) (H' : Hp), itv = .ref it ∧ Inv X pins σ H' s2 ∧ Turn X.prog X.w X.K tg J fp it tn ∧ tn 0 s2.heap ∧ (∀ b ∈ fp, FpOk X pins H' b) ∧ R J H'
def PI (X : Cx) (tg iter : Expr) (wi : TI) : Prop :=
  ∀ (pins : List (Addr × Obj)) (s : Shared) (σ : St) (H : Hp) (R : It → Hp → Prop), Inv X pins σ H s → wi σ H R →
    wpAny (model X.prog X.w) X.A (eval iter X.env) (fun v s1 => wpAny (model X.prog X.w) X.A (pyIter v) (PIE X pins σ tg R) X.xe s1) X.xe s
theorem go_of {M : Model} {A : Around} {E : Value → Shared → Prop} {s : Shared} {tg : Expr} {it : Addr} {u : Value} {o : Obj} {n : String} {vs : Array Value} {Q : Unit → Shared → Prop} (ho : s.heap.get? it = some o) (hc : o.cls = .type n) (hd : o.data = .fields vs)
    (hn : ["enumerate", "zip", "dict_itemiterator", "dict_reverseitemiterator", "odict_iterator", "itertools.zip_longest", "itertools.pairwise"].contains n = false) (hQ : Q () s) : wpAny M A (letOwnedTupleGo tg (.ref it) u) Q E s := by
  unfold letOwnedTupleGo
  cases tg <;> first
    | exact wpAny_pure hQ
    | (cases u <;> first
        | exact wpAny_pure hQ
        | (refine wpAny_bind (wpAny_load ho ?_)
           rw [hc, hd]
           show wpAny M A (if (["enumerate", "zip", "dict_itemiterator", "dict_reverseitemiterator", "odict_iterator", "itertools.zip_longest", "itertools.pairwise"].contains n && vs[0]? == some (rawInt _)) = true then _ else _) Q E s
           rw [if_neg (by intro h; rw [hn, Bool.false_and] at h; cases h)]
           exact wpAny_pure hQ))
def Itl (K : PySem.W.Frag) (a : Addr) : It :=
  ⟨fun i H => ∃ xs x, SqL K H a xs ∧ xs[i]? = some x, fun i H x H' => H' = H ∧ ∀ xs, SqL K H a xs → xs[i]? = some x, fun i H => ∃ xs, SqL K H a xs ∧ xs.length ≤ i⟩
def Itt (K : PySem.W.Frag) (a : Addr) : It :=
  ⟨fun i H => ∃ xs x, SqT K H a xs ∧ xs[i]? = some x, fun i H x H' => H' = H ∧ ∀ xs, SqT K H a xs → xs[i]? = some x, fun i H => ∃ xs, SqT K H a xs ∧ xs.length ≤ i⟩
theorem turn_list {P : Program} {w : World} {K : PySem.W.Frag} {tg : Expr} (a it : Addr) : Turn P w K tg (Itl K a) [it] it (fun i h => h.IsListIter it a i) where
  mem := by simp
  obj := fun i h st b hb => by
    have e : b = it := by simpa using hb
    subst e
    obtain ⟨o, e, c, d⟩ := st
    exact ⟨o, e, fun v z => by rw [d] at z; cases z⟩
  keep := fun i h h' st k => st.at fun o e => k it (by simp) o e
  item := by
    intro X hP hw hK hc i pins s σ H E I hf st hg
    subst hP hw hK
    obtain ⟨xs, x, hq, hx⟩ := hg
    obtain ⟨its, rv, p, hz⟩ := I.list hq
    obtain ⟨u, hu, ru⟩ := rv.get hx
    obtain ⟨f0, f1, f2, f3, f4, f5⟩ := hf it (by simp)
    refine wpAny_pyNext_list_item st p.isList (x := u) (by simpa using hu) fun h' st' sb => ?_
    have I1 : Inv X pins σ H { s with heap := h' } := I.turned (t' := s.toks) (fun b o hb e => (sb.2 b hb).trans e) f0 f1 f3 f4 f5
    obtain ⟨o, e, c, d⟩ := id st'
    exact ⟨u, rfl, go_of (s := { s with heap := h' }) e c d (by decide) ⟨x, H, I1, ru, ⟨rfl, fun ys hy => by rw [I.list_inj hy hq]; exact hx⟩, st', fun b hb => (hf b hb).1⟩⟩
  done := by
    intro X hP hw hK hc i pins s σ H E I hf st hg
    subst hP hw hK
    obtain ⟨xs, hq, hx⟩ := hg
    obtain ⟨its, rv, p, hz⟩ := I.list hq
    obtain ⟨f0, f1, f2, f3, f4, f5⟩ := hf it (by simp)
    have hl := rv.length
    exact wpAny_pyNext_list_end (I.ok.hd hc) st p.isList (by simp; omega) fun h' eb => ⟨rfl, I.turned (t' := s.toks) (fun b o hb e => eb b o hb e) f0 f1 f3 f4 f5⟩
  self := fun _ _ _ _ _ st h => wpAny_pyIter_listiter st h
theorem turn_tuple {P : Program} {w : World} {K : PySem.W.Frag} {tg : Expr} (a it : Addr) : Turn P w K tg (Itt K a) [it] it (fun i h => h.IsTupleIter it a i) where
  mem := by simp
  obj := fun i h st b hb => by
    have e : b = it := by simpa using hb
    subst e
    obtain ⟨o, e, c, d⟩ := st
    exact ⟨o, e, fun v z => by rw [d] at z; cases z⟩
  keep := fun i h h' st k => st.at fun o e => k it (by simp) o e
  item := by
    intro X hP hw hK hc i pins s σ H E I hf st hg
    subst hP hw hK
    obtain ⟨xs, x, hq, hx⟩ := hg
    obtain ⟨its, rv, p, hz⟩ := I.tuple hq
    obtain ⟨u, hu, ru⟩ := rv.get hx
    obtain ⟨f0, f1, f2, f3, f4, f5⟩ := hf it (by simp)
    refine wpAny_pyNext_tuple_item st (show s.heap.IsTuple a its.toArray from p) (x := u) (by simpa using hu) fun h' st' sb => ?_
    have I1 : Inv X pins σ H { s with heap := h' } := I.turned (t' := s.toks) (fun b o hb e => (sb.2 b hb).trans e) f0 f1 f3 f4 f5
    obtain ⟨o, e, c, d⟩ := id st'
    exact ⟨u, rfl, go_of (s := { s with heap := h' }) e c d (by decide) ⟨x, H, I1, ru, ⟨rfl, fun ys hy => by rw [I.tuple_inj hy hq]; exact hx⟩, st', fun b hb => (hf b hb).1⟩⟩
  done := by
    intro X hP hw hK hc i pins s σ H E I hf st hg
    subst hP hw hK
    obtain ⟨xs, hq, hx⟩ := hg
    obtain ⟨its, rv, p, hz⟩ := I.tuple hq
    obtain ⟨f0, f1, f2, f3, f4, f5⟩ := hf it (by simp)
    have hl := rv.length
    exact wpAny_pyNext_tuple_end (I.ok.hd hc) st (show s.heap.IsTuple a its.toArray from p) (by simp; omega) fun h' eb => ⟨rfl, I.turned (t' := s.toks) (fun b o hb e => eb b o hb e) f0 f1 f3 f4 f5⟩
  self := fun _ _ _ _ _ st h => wpAny_pyIter_tupleiter st h
end L2
namespace L2
open PySem PySem.Spec PyProof.Rows
section
variable {X : Cx} {tg : Expr}
def iList (K : PySem.W.Frag) (tl : TE) : TI := fun σ H R => tl σ H fun x H1 => ∃ a, x = .ref a ∧ (∃ xs, SqL K H1 a xs) ∧ R (Itl K a) H1
def iTup (K : PySem.W.Frag) (tl : TE) : TI := fun σ H R => tl σ H fun x H1 => ∃ a, x = .ref a ∧ (∃ xs, SqT K H1 a xs) ∧ R (Itt K a) H1
theorem pi_list {l : Expr} {tl : TE} (hl : PE X l tl) : PI X tg l (iList X.K tl) := by
  intro pins s σ H R I h
  refine thn (hl pins s σ H _ I h) fun v s1 ⟨x, H1, I1, r1, q1⟩ => ?_
  obtain ⟨a, e, ⟨xs, hq⟩, q⟩ := q1
  subst e
  cases r1
  obtain ⟨its, rv, p, hz⟩ := I1.list hq
  refine wpAny_pyIter_list p.isList ?_
  refine ⟨s1.heap.objs.size, [s1.heap.objs.size], _, _, H1, rfl, I1.kept (t' := s1.toks) fun b o e => Heap.get?_push_of_some _ e, turn_list a _, ⟨_, Heap.get?_push_size _ rfl, rfl, rfl⟩, fun b hb => ?_, q⟩
  have e : b = s1.heap.objs.size := by simpa using hb
  subst e
  exact I1.fpOk (Nat.le_refl _) (I1.hok.fresh (Nat.le_refl _))
theorem pi_tup {l : Expr} {tl : TE} (hl : PE X l tl) : PI X tg l (iTup X.K tl) := by
  intro pins s σ H R I h
  refine thn (hl pins s σ H _ I h) fun v s1 ⟨x, H1, I1, r1, q1⟩ => ?_
  obtain ⟨a, e, ⟨xs, hq⟩, q⟩ := q1
  subst e
  cases r1
  obtain ⟨its, rv, p, hz⟩ := I1.tuple hq
  refine wpAny_pyIter_tuple (show s1.heap.IsTuple a its.toArray from p) ?_
  refine ⟨s1.heap.objs.size, [s1.heap.objs.size], _, _, H1, rfl, I1.kept (t' := s1.toks) fun b o e => Heap.get?_push_of_some _ e, turn_tuple a _, ⟨_, Heap.get?_push_size _ rfl, rfl, rfl⟩, fun b hb => ?_, q⟩
  have e : b = s1.heap.objs.size := by simpa using hb
  subst e
  exact I1.fpOk (Nat.le_refl _) (I1.hok.fresh (Nat.le_refl _))
def tFor (wi : TI) (g : TG) (tb : TS) : TS := fun D σ H => wi σ H fun J H1 => ∃ W : Nat → Nat → St → Hp → Prop, (∃ m, W 0 m σ H1) ∧ ∀ i m σ H, W i m σ H →
  (J.stop i H ∧ D.nx σ H) ∨ (J.go i H ∧ ∃ N : St → Hp → Prop, (∀ σ' H', N σ' H' → ∃ m', m' < m ∧ W (i + 1) m' σ' H') ∧ ∀ x H', J.yld i H x H' → g x σ H' fun σ2 H2 => tb { D with nx := N, ct := N, bk := D.nx } σ2 H2)
def pinsAt (fp : List Addr) (h : Heap) : List (Addr × Obj) := fp.filterMap fun b => (h.get? b).map fun o => (b, o)
theorem mem_pinsAt {fp : List Addr} {h : Heap} {b : Addr} {o : Obj} (hb : b ∈ fp) (e : h.get? b = some o) : (b, o) ∈ pinsAt fp h := List.mem_filterMap.mpr ⟨b, hb, by rw [e]; rfl⟩
theorem of_pinsAt {fp : List Addr} {h : Heap} {p : Addr × Obj} (hp : p ∈ pinsAt fp h) : p.1 ∈ fp ∧ h.get? p.1 = some p.2 := by
  obtain ⟨b, hb, e⟩ := List.mem_filterMap.mp hp
  cases q : h.get? b with
  | none => rw [q] at e; cases e
  | some o =>
    rw [q] at e
    have e' : (b, o) = p := Option.some.inj e
    subst e'
    exact ⟨hb, q⟩
theorem Inv.pinned {pins : List (Addr × Obj)} {σ : St} {H : Hp} {s : Shared} {fp : List Addr} (I : Inv X pins σ H s) (hf : ∀ b ∈ fp, FpOk X pins H b) (ho : ∀ b ∈ fp, ∃ o, s.heap.get? b = some o ∧ ∀ v, o.data ≠ .cell v) : Inv X (pins ++ pinsAt fp s.heap) σ H s :=
  I.pins_of fun p hp => (List.mem_append.mp hp).elim (fun z => I.pin p (List.mem_append_right _ z)) fun z => by
    obtain ⟨hb, e⟩ := of_pinsAt z
    obtain ⟨f0, f1, f2, _⟩ := hf p.1 hb
    obtain ⟨o, e', d⟩ := ho p.1 hb
    rw [e] at e'; cases e'
    exact ⟨e, f0, f1, f2, d⟩
theorem Inv.unpinned {pins pl : List (Addr × Obj)} {σ : St} {H : Hp} {s : Shared} (I : Inv X (pins ++ pl) σ H s) : Inv X pins σ H s := I.pins_of fun p hp => I.pin p (List.mem_append_right _ (List.mem_append_left _ hp))
theorem ps_for {iter : Expr} {body : List Stmt} {wi : TI} {g : TG} {tb : TS} {pos : Pos} (hp : PassesOwn (model X.prog X.w) X.A X.env X.xe) (hc : X.calm = true) (hi : PI X tg iter wi) (hg : PG X tg g) (hb : PSs X body tb)
    (hs : ∀ x, foldedSetIterable iter X.env x = pure x := by intro _; rfl) : PS X (.For tg iter body [] pos) (tFor wi g tb) := by
  intro pins s σ H D I h
  refine wpAny_For (thn (hi pins s σ H _ I h) fun v s1 h1 => thn h1 fun itv s2 h2 => ?_) hs
  obtain ⟨it, fp, tn, J, H2, e, I2, T, st2, f2, W, ⟨m0, w0⟩, turn⟩ := h2
  subst e
  -- what stays true of the iterator's objects through the loop
  have stat : ∀ {H' : Hp}, (∀ b ∈ fp, H' b = none) → ∀ b ∈ fp, FpOk X pins H' b := fun hn b hb => ⟨hn b hb, (f2 b hb).2⟩
  refine codeAny_forLoop_any (fun n s' => ∃ i σ' H', Inv X pins σ' H' s' ∧ tn i s'.heap ∧ (∀ b ∈ fp, H' b = none) ∧ W i n σ' H') ?_ m0 ⟨0, σ, H2, I2, st2, fun b hb => (f2 b hb).1, w0⟩
  rintro n s3 ⟨i, σ3, H3, I3, st3, fr3, w3⟩
  rcases turn i n σ3 H3 w3 with ⟨stop, qn⟩ | ⟨go, N, hN, step⟩
  · refine wpAny_passesOwn hp (thn (T.done X rfl rfl rfl hc i pins s3 σ3 H3 X.xe I3 (stat fr3) st3 stop) fun r s4 ⟨hr, I4⟩ => ?_)
    subst hr
    exact wpAny_execs_nil ⟨σ3, H3, I4, qn⟩
  · refine wpAny_passesOwn hp (thn (T.item X rfl rfl rfl hc i pins s3 σ3 H3 X.xe I3 (stat fr3) st3 go) fun r s4 ⟨u, hr, h4⟩ => ?_)
    subst hr
    refine wpAny_passesOwn hp (thn h4 fun _ s5 ⟨x, H5, I5, r5, y5, st5, fr5⟩ => ?_)
    have I5' := I5.pinned (stat fr5) (T.obj _ _ st5)
    refine wpAny_passesOwn hp (thn (hg _ s5 σ3 H5 x u _ I5' r5 (step x H5 y5)) fun _ s6 ⟨σ6, H6, I6, q6⟩ => ?_)
    refine wpAny_passesOwn hp (thn (hb _ s6 σ6 H6 _ I6 q6) fun f s7 q7 => ?_)
    have again : ∀ {σ7 : St} {H7 : Hp}, Inv X (pins ++ pinsAt fp s5.heap) σ7 H7 s7 → N σ7 H7 → ∃ m, m < n ∧ ∃ i σ' H', Inv X pins σ' H' s7 ∧ tn i s7.heap ∧ (∀ b ∈ fp, H' b = none) ∧ W i m σ' H' := fun {σ7 H7} I7 n7 => by
      obtain ⟨m', hm, w7⟩ := hN σ7 H7 n7
      refine ⟨m', hm, i + 1, σ7, H7, I7.unpinned, T.keep _ _ _ st5 fun b hb o e => (I7.pin (b, o) (List.mem_append_right _ (List.mem_append_right _ (mem_pinsAt hb e)))).1, fun b hb => ?_, w7⟩
      obtain ⟨o, e, d⟩ := T.obj _ _ st5 b hb
      exact (I7.pin (b, o) (List.mem_append_right _ (List.mem_append_right _ (mem_pinsAt hb e)))).2.1
    cases f with
    | next => obtain ⟨σ7, H7, I7, n7⟩ := q7; exact again I7 n7
    | cont => obtain ⟨σ7, H7, I7, n7⟩ := q7; exact again I7 n7
    | brk => obtain ⟨σ7, H7, I7, q7⟩ := q7; exact ⟨σ7, H7, I7.unpinned, q7⟩
    | ret v => obtain ⟨x7, σ7, H7, I7, r7, q7⟩ := q7; exact ⟨x7, σ7, H7, I7.unpinned, r7, q7⟩
end
theorem for_list {K : PySem.W.Frag} {a : Addr} {xs : List V} {g : TG} {tb : TS} {D : Ends} {σ : St} {H : Hp} (Pv : Nat → St → Hp → Prop) (h0 : Pv 0 σ H) (hl : ∀ i σ H, i ≤ xs.length → Pv i σ H → SqL K H a xs)
    (hs : ∀ i x σ H, xs[i]? = some x → Pv i σ H → g x σ H fun σ2 H2 => tb { D with nx := Pv (i + 1), ct := Pv (i + 1), bk := D.nx } σ2 H2) (hd : ∀ σ H, Pv xs.length σ H → D.nx σ H) :
    ∃ W : Nat → Nat → St → Hp → Prop, (∃ m, W 0 m σ H) ∧ ∀ i m σ H, W i m σ H →
      ((Itl K a).stop i H ∧ D.nx σ H) ∨ ((Itl K a).go i H ∧ ∃ N : St → Hp → Prop, (∀ σ' H', N σ' H' → ∃ m', m' < m ∧ W (i + 1) m' σ' H') ∧ ∀ x H', (Itl K a).yld i H x H' → g x σ H' fun σ2 H2 => tb { D with nx := N, ct := N, bk := D.nx } σ2 H2) := by
  refine ⟨fun i m σ H => m = xs.length - i ∧ i ≤ xs.length ∧ Pv i σ H, ⟨xs.length, by simp, Nat.zero_le _, h0⟩, ?_⟩
  rintro i m σ H ⟨rfl, hi, p⟩
  have q := hl i σ H hi p
  by_cases hlt : i < xs.length
  · refine .inr ⟨⟨xs, xs[i], q, by simp [hlt]⟩, Pv (i + 1), fun σ' H' p' => ⟨xs.length - (i + 1), by omega, rfl, hlt, p'⟩, fun x H' y => ?_⟩
    obtain ⟨e, y⟩ := y
    subst e
    exact hs i x σ _ (y xs q) p
  · have e : i = xs.length := by omega
    subst e
    exact .inl ⟨⟨xs, q, Nat.le_refl _⟩, hd σ H p⟩
theorem for_tup {K : PySem.W.Frag} {a : Addr} {xs : List V} {g : TG} {tb : TS} {D : Ends} {σ : St} {H : Hp} (Pv : Nat → St → Hp → Prop) (h0 : Pv 0 σ H) (hl : ∀ i σ H, i ≤ xs.length → Pv i σ H → SqT K H a xs)
    (hs : ∀ i x σ H, xs[i]? = some x → Pv i σ H → g x σ H fun σ2 H2 => tb { D with nx := Pv (i + 1), ct := Pv (i + 1), bk := D.nx } σ2 H2) (hd : ∀ σ H, Pv xs.length σ H → D.nx σ H) :
    ∃ W : Nat → Nat → St → Hp → Prop, (∃ m, W 0 m σ H) ∧ ∀ i m σ H, W i m σ H →
      ((Itt K a).stop i H ∧ D.nx σ H) ∨ ((Itt K a).go i H ∧ ∃ N : St → Hp → Prop, (∀ σ' H', N σ' H' → ∃ m', m' < m ∧ W (i + 1) m' σ' H') ∧ ∀ x H', (Itt K a).yld i H x H' → g x σ H' fun σ2 H2 => tb { D with nx := N, ct := N, bk := D.nx } σ2 H2) := by
  refine ⟨fun i m σ H => m = xs.length - i ∧ i ≤ xs.length ∧ Pv i σ H, ⟨xs.length, by simp, Nat.zero_le _, h0⟩, ?_⟩
  rintro i m σ H ⟨rfl, hi, p⟩
  have q := hl i σ H hi p
  by_cases hlt : i < xs.length
  · refine .inr ⟨⟨xs, xs[i], q, by simp [hlt]⟩, Pv (i + 1), fun σ' H' p' => ⟨xs.length - (i + 1), by omega, rfl, hlt, p'⟩, fun x H' y => ?_⟩
    obtain ⟨e, y⟩ := y
    subst e
    exact hs i x σ _ (y xs q) p
  · have e : i = xs.length := by omega
    subst e
    exact .inl ⟨⟨xs, q, Nat.le_refl _⟩, hd σ H p⟩
end L2
namespace L2
open PySem PySem.Spec PyProof.Rows
abbrev R2 := V → V → Hp → VK → Prop
def OpR (X : Cx) (f : Value → Value → Sem Value) (r : R2) : Prop :=
  ∀ (pins : List (Addr × Obj)) (s : Shared) (σ : St) (H : Hp) (x y : V) (v u : Value) (Q : VK), Inv X pins σ H s → RelV x v → RelV y u → r x y H Q →
    wpAny (model X.prog X.w) X.A (f v u) (EP X pins σ Q) X.xe s
def CallR (X : Cx) (f : Value) (r : List V → Hp → VK → Prop) : Prop :=
  ∀ (pins : List (Addr × Obj)) (s : Shared) (σ : St) (H : Hp) (xs : List V) (us : List Value) (Q : VK), Inv X pins σ H s → Vals xs us → r xs H Q →
    wpAny (model X.prog X.w) X.A (call f us) (EP X pins σ Q) X.xe s
def tOp (r : R2) (ta tb : TE) : TE := fun σ H Q => ta σ H fun x H1 => tb σ H1 fun y H2 => r x y H2 Q
def rI (C : Int → Int → Prop) (g : Int → Int → V) : R2 := fun x y H Q => ∃ i j, x = .int i ∧ y = .int j ∧ C i j ∧ Q (g i j) H
def rI0 (g : Int → Int → V) : R2 := fun x y H Q => ∃ i j, x = .int i ∧ y = .int j ∧ Q (g i j) H
section
variable {X : Cx} {a b c : Expr} {ta tb tc : TE} {pos : Pos}
theorem binT (ha : PE X a ta) (hb : PE X b tb) {pins : List (Addr × Obj)} {s : Shared} {σ : St} {H : Hp} {R : V → V → Hp → Prop} (I : Inv X pins σ H s)
    (h : ta σ H fun x H1 => tb σ H1 fun y H2 => R x y H2) {Q : Value → Shared → Prop} {f : Value → Value → Sem Value}
    (hf : ∀ v u s2 x y H2, Inv X pins σ H2 s2 → RelV x v → RelV y u → R x y H2 → wpAny (model X.prog X.w) X.A (f v u) Q X.xe s2) :
    wpAny (model X.prog X.w) X.A (eval a X.env) (fun v s₁ => wpAny (model X.prog X.w) X.A (eval b X.env) (fun u s₂ => wpAny (model X.prog X.w) X.A (f v u) Q X.xe s₂) X.xe s₁) X.xe s := by
  refine thn (ha pins s σ H _ I h) fun v s1 ⟨x, H1, I1, r1, q1⟩ => ?_
  refine thn (hb pins s1 σ H1 _ I1 q1) fun u s2 ⟨y, H2, I2, r2, q2⟩ => ?_
  exact hf v u s2 x y H2 I2 r1 r2 q2
theorem pe_op {op : Operator} {r : R2} (ho : OpR X (binaryOp op) r) (ha : PE X a ta) (hb : PE X b tb) : PE X (.BinOp a op b pos) (tOp r ta tb) := by
  intro pins s σ H Q I h
  exact wpAny_BinOp (binT ha hb I h fun v u s2 x y H2 I2 rx ry q => ho pins s2 σ H2 x y v u Q I2 rx ry q)
theorem opI {f : Value → Value → Sem Value} {C : Int → Int → Prop} {g : Int → Int → Int}
    (rule : ∀ (i j : Int) (t u : Tok) (s : Shared) (Q : Value → Shared → Prop) (E : Value → Shared → Prop), C i j → Q (.int (g i j) s.toks) { s with toks := s.toks + 1 } → wpAny (model X.prog X.w) X.A (f (.int i t) (.int j u)) Q E s) :
    OpR X f (rI C fun i j => .int (g i j)) := by
  intro pins s σ H x y v u Q I rx ry h
  obtain ⟨i, j, rfl, rfl, hc, q⟩ := h
  obtain ⟨t, rfl⟩ := rx
  obtain ⟨t', rfl⟩ := ry
  exact rule i j t t' s _ _ hc ⟨.int (g i j), H, I.tok _, ⟨_, rfl⟩, q⟩
theorem opI0 {f : Value → Value → Sem Value} {g : Int → Int → Int}
    (rule : ∀ (i j : Int) (t u : Tok) (s : Shared) (Q : Value → Shared → Prop) (E : Value → Shared → Prop), Q (.int (g i j) s.toks) { s with toks := s.toks + 1 } → wpAny (model X.prog X.w) X.A (f (.int i t) (.int j u)) Q E s) :
    OpR X f (rI0 fun i j => .int (g i j)) := by
  intro pins s σ H x y v u Q I rx ry h
  obtain ⟨i, j, rfl, rfl, q⟩ := h
  obtain ⟨t, rfl⟩ := rx
  obtain ⟨t', rfl⟩ := ry
  exact rule i j t t' s _ _ ⟨.int (g i j), H, I.tok _, ⟨_, rfl⟩, q⟩
theorem opB0 {f : Value → Value → Sem Value} {g : Int → Int → Bool}
    (rule : ∀ (i j : Int) (t u : Tok) (s : Shared) (Q : Value → Shared → Prop) (E : Value → Shared → Prop), Q (.bool (g i j)) s → wpAny (model X.prog X.w) X.A (f (.int i t) (.int j u)) Q E s) :
    OpR X f (rI0 fun i j => .bl (g i j)) := by
  intro pins s σ H x y v u Q I rx ry h
  obtain ⟨i, j, rfl, rfl, q⟩ := h
  obtain ⟨t, rfl⟩ := rx
  obtain ⟨t', rfl⟩ := ry
  exact rule i j t t' s _ _ ⟨.bl (g i j), H, I, rfl, q⟩
def CDiv (i j : Int) : Prop := 0 < j ∧ j < 1073741824
def CMul (i j : Int) : Prop := (-(2 ^ 64) < i ∧ i < 2 ^ 64) ∨ (-(2 ^ 64) < j ∧ j < 2 ^ 64)
theorem CMul.ok {i j : Int} (h : CMul i j) : IntMulOk i j := by
  rcases h with ⟨h1, h2⟩ | ⟨h1, h2⟩
  · exact .of_left (intBits_le_64 h1 h2)
  · exact .of_right (intBits_le_64 h1 h2)
theorem op_add : OpR X (binaryOp .Add) (rI0 fun i j => .int (i + j)) := opI0 fun _ _ _ _ _ _ _ q => add_int q
theorem op_sub : OpR X (binaryOp .Sub) (rI0 fun i j => .int (i - j)) := opI0 fun _ _ _ _ _ _ _ q => sub_int q
theorem op_mul : OpR X (binaryOp .Mult) (rI CMul fun i j => .int (i * j)) := opI fun _ _ _ _ _ _ _ hc q => mul_int q hc.ok
theorem op_fdiv : OpR X (binaryOp .FloorDiv) (rI CDiv fun i j => .int (i / j)) := opI fun i j _ _ _ _ _ hc q => by
  have h1 : (0 : Int) < j := hc.1
  have h2 : j < 1073741824 := hc.2
  exact floordiv_int (by omega) (by rw [Int.fdiv_eq_ediv_of_nonneg i (by omega)]; exact q) (.inl (PyProof.noPylong_small (by omega)))
theorem op_mod : OpR X (binaryOp .Mod) (rI (fun _ j => 0 < j) fun i j => .int (i % j)) := opI fun i j _ _ _ _ _ hc q => by
  have h1 : (0 : Int) < j := hc
  exact mod_int' (by omega) (by rw [Int.fmod_eq_emod_of_nonneg i (by omega)]; exact q)
end
def scal : V → V → Bool
  | .non, .non => true | .non, .int _ => true | .int _, .non => true | .non, .bl _ => true | .bl _, .non => true | .non, .str _ => true | .str _, .non => true
  | .int _, .int _ => true | .bl _, .bl _ => true | .str _, .str _ => true | .byt _, .byt _ => true
  | .int _, .str _ => true | .str _, .int _ => true | .bl _, .str _ => true | .str _, .bl _ => true
  | _, _ => false
def rEq : R2 := fun x y H Q => scal x y = true ∧ Q (.bl (decide (x = y))) H
def rNe : R2 := fun x y H Q => scal x y = true ∧ Q (.bl (!decide (x = y))) H
theorem dec_int {i j : Int} : decide (V.int i = V.int j) = (i == j) := by
  rw [Bool.eq_iff_iff]
  simp
theorem dec_bl {i j : Bool} : decide (V.bl i = V.bl j) = (i == j) := by
  rw [Bool.eq_iff_iff]
  simp
theorem dec_str {i j : Str} : decide (V.str i = V.str j) = (i == j) := by
  rw [Bool.eq_iff_iff]
  simp
theorem dec_byt {i j : Array UInt8} : decide (V.byt i = V.byt j) = (i.toList == j.toList) := by
  rw [Bool.eq_iff_iff]
  cases i
  cases j
  simp
section
variable {X : Cx} {a b c : Expr} {ta tb tc : TE} {pos : Pos}
theorem fin_bl {pins : List (Addr × Obj)} {σ : St} {H : Hp} {s : Shared} {Q : VK} {k k' : Bool} (I : Inv X pins σ H s) (q : Q (.bl k) H) (e : k = k') : EP X pins σ Q (.bool k') s := by
  subst e
  exact ⟨.bl k, H, I, rfl, q⟩
theorem op_eq : OpR X (compareOp .Eq) rEq := by
  intro pins s σ H x y v u Q I rx ry h
  obtain ⟨hs, q⟩ := h
  cases x with
  | non =>
    cases rx
    cases y with
    | non => cases ry; exact PySem.EqNone.eq_none_none (fin_bl I q (by simp))
    | bl j => cases ry; exact PySem.EqNone.eq_none_bool (fin_bl I q (by simp))
    | int j => obtain ⟨t', rfl⟩ := ry; exact PySem.EqNone.eq_none_int (fin_bl I q (by simp))
    | str j => obtain ⟨t', rfl⟩ := ry; exact PySem.EqNone.eq_none_str (fin_bl I q (by simp))
    | _ => exact absurd (show false = true from hs) Bool.false_ne_true
  | bl i =>
    cases rx
    cases y with
    | non => cases ry; exact PySem.EqNone.eq_bool_none (fin_bl I q (by simp))
    | bl j => cases ry; exact eq_bool (fin_bl I q dec_bl)
    | str j => obtain ⟨t', rfl⟩ := ry; exact PySem.EqMixed.eq_bool_str (fin_bl I q (by simp))
    | _ => exact absurd (show false = true from hs) Bool.false_ne_true
  | int i =>
    obtain ⟨t, rfl⟩ := rx
    cases y with
    | non => cases ry; exact PySem.EqNone.eq_int_none (fin_bl I q (by simp))
    | int j => obtain ⟨t', rfl⟩ := ry; exact eq_int (fin_bl I q dec_int)
    | str j => obtain ⟨t', rfl⟩ := ry; exact PySem.EqMixed.eq_int_str (fin_bl I q (by simp))
    | _ => exact absurd (show false = true from hs) Bool.false_ne_true
  | str i =>
    obtain ⟨t, rfl⟩ := rx
    cases y with
    | non => cases ry; exact PySem.EqNone.eq_str_none (fin_bl I q (by simp))
    | bl j => cases ry; exact PySem.EqMixed.eq_str_bool (fin_bl I q (by simp))
    | int j => obtain ⟨t', rfl⟩ := ry; exact PySem.EqMixed.eq_str_int (fin_bl I q (by simp))
    | str j => obtain ⟨t', rfl⟩ := ry; exact eq_str (fin_bl I q dec_str)
    | _ => exact absurd (show false = true from hs) Bool.false_ne_true
  | byt i =>
    obtain ⟨t, rfl⟩ := rx
    cases y with
    | byt j => obtain ⟨t', rfl⟩ := ry; exact PySem.W.eq_bytes (fin_bl I q dec_byt)
    | _ => exact absurd (show false = true from hs) Bool.false_ne_true
  | _ => cases y <;> exact absurd (show false = true from hs) Bool.false_ne_true
theorem op_ne : OpR X (compareOp .NotEq) rNe := by
  intro pins s σ H x y v u Q I rx ry h
  obtain ⟨hs, q⟩ := h
  cases x with
  | non =>
    cases rx
    cases y with
    | non => cases ry; exact PySem.EqNone.ne_none_none (fin_bl I q (by simp))
    | bl j => cases ry; exact PySem.EqNone.ne_none_bool (fin_bl I q (by simp))
    | int j => obtain ⟨t', rfl⟩ := ry; exact PySem.EqNone.ne_none_int (fin_bl I q (by simp))
    | str j => obtain ⟨t', rfl⟩ := ry; exact PySem.EqNone.ne_none_str (fin_bl I q (by simp))
    | _ => exact absurd (show false = true from hs) Bool.false_ne_true
  | bl i =>
    cases rx
    cases y with
    | non => cases ry; exact PySem.EqNone.ne_bool_none (fin_bl I q (by simp))
    | bl j => cases ry; exact ne_bool (fin_bl I q (congrArg not dec_bl))
    | str j => obtain ⟨t', rfl⟩ := ry; exact PySem.EqMixed.ne_bool_str (fin_bl I q (by simp))
    | _ => exact absurd (show false = true from hs) Bool.false_ne_true
  | int i =>
    obtain ⟨t, rfl⟩ := rx
    cases y with
    | non => cases ry; exact PySem.EqNone.ne_int_none (fin_bl I q (by simp))
    | int j => obtain ⟨t', rfl⟩ := ry; exact ne_int (fin_bl I q (congrArg not dec_int))
    | str j => obtain ⟨t', rfl⟩ := ry; exact PySem.EqMixed.ne_int_str (fin_bl I q (by simp))
    | _ => exact absurd (show false = true from hs) Bool.false_ne_true
  | str i =>
    obtain ⟨t, rfl⟩ := rx
    cases y with
    | non => cases ry; exact PySem.EqNone.ne_str_none (fin_bl I q (by simp))
    | bl j => cases ry; exact PySem.EqMixed.ne_str_bool (fin_bl I q (by simp))
    | int j => obtain ⟨t', rfl⟩ := ry; exact PySem.EqMixed.ne_str_int (fin_bl I q (by simp))
    | str j => obtain ⟨t', rfl⟩ := ry; exact ne_str (fin_bl I q (congrArg not dec_str))
    | _ => exact absurd (show false = true from hs) Bool.false_ne_true
  | byt i =>
    obtain ⟨t, rfl⟩ := rx
    cases y with
    | byt j => obtain ⟨t', rfl⟩ := ry; exact PySem.W.ne_bytes (fin_bl I q (congrArg not dec_byt))
    | _ => exact absurd (show false = true from hs) Bool.false_ne_true
  | _ => cases y <;> exact absurd (show false = true from hs) Bool.false_ne_true
theorem op_lt : OpR X (compareOp .Lt) (rI0 fun i j => .bl (decide (i < j))) := opB0 fun _ _ _ _ _ _ _ q => lt_int q
theorem op_le : OpR X (compareOp .LtE) (rI0 fun i j => .bl (decide (i ≤ j))) := opB0 fun _ _ _ _ _ _ _ q => le_int q
theorem op_gt : OpR X (compareOp .Gt) (rI0 fun i j => .bl (decide (j < i))) := opB0 fun _ _ _ _ _ _ _ q => gt_int q
theorem op_ge : OpR X (compareOp .GtE) (rI0 fun i j => .bl (decide (j ≤ i))) := opB0 fun _ _ _ _ _ _ _ q => ge_int q
theorem op_notN : OpR X (compareOp .IsNot) (fun x y H Q => y = .non ∧ Q (.bl (!decide (x = .non))) H) := by
  intro pins s σ H x y v u Q I rx ry h
  obtain ⟨rfl, q⟩ := h
  cases ry
  refine isnot_none_gen (fin_bl I q ?_)
  cases x <;> first
    | (cases rx; rfl)
    | (obtain ⟨t, rfl⟩ := rx; rfl)
theorem nomark (b : Expr) {op : CmpOp} (h : op ≠ .In := by decide) (h2 : op ≠ .NotIn := by decide) : behindInMarks op b = false := by
  have e1 : (op == CmpOp.In) = false := by cases op <;> first | rfl | exact absurd rfl h
  have e2 : (op == CmpOp.NotIn) = false := by cases op <;> first | rfl | exact absurd rfl h2
  cases b <;> simp [behindInMarks, e1, e2]
theorem pe_cmpR {op : CmpOp} {r : R2} (ho : OpR X (compareOp op) r) (ha : PE X a ta) (hb : PE X b tb) (hm : behindInMarks op b = false) : PE X (.Compare a [op] [b] pos) (tOp r ta tb) := by
  intro pins s σ H Q I h
  exact wpAny_Compare1 (binT ha hb I h fun v u s2 x y H2 I2 rx ry q => ho pins s2 σ H2 x y v u Q I2 rx ry q) hm
def tTest (t : TE) : TT := fun σ H Q => t σ H fun x H' => ∃ k, x = .bl k ∧ Q k H'
theorem pt_cmpR {op : CmpOp} {r : R2} (ho : OpR X (compareOp op) r) (ha : PE X a ta) (hb : PE X b tb) (hm : behindInMarks op b = false) : PT X (.Compare a [op] [b] pos) (tTest (tOp r ta tb)) := by
  intro pins s σ H Q I h
  refine wpAny_isTrue_Compare1 (thn (ha pins s σ H _ I h) fun v s1 ⟨x, H1, I1, r1, q1⟩ => thn (hb pins s1 σ H1 _ I1 q1) fun u s2 ⟨y, H2, I2, r2, q2⟩ =>
    thn (ho pins s2 σ H2 x y v u _ I2 r1 r2 q2) fun c s3 ⟨z, H3, I3, r3, k, e, q3⟩ => ?_) hm
  subst e
  cases r3
  exact wpAny_truthy_bool ⟨H3, I3, q3⟩
def tChain (r r' : R2) (ta tb tc : TE) : TE := fun σ H Q => ta σ H fun x H1 => tb σ H1 fun y H2 => r x y H2 fun z H3 => ∃ k, z = .bl k ∧
  (if k = true then tc σ H3 fun w' H4 => r' y w' H4 Q else Q (.bl false) H3)
theorem pe_chain {op op' : CmpOp} {r r' : R2} (ho : OpR X (compareOp op) r) (ho' : OpR X (compareOp op') r') (ha : PE X a ta) (hb : PE X b tb) (hc : PE X c tc)
    (hm : lastMarks [op, op'] [b, c] = false := by with_unfolding_all rfl) : PE X (.Compare a [op, op'] [b, c] pos) (tChain r r' ta tb tc) := by
  intro pins s σ H Q I h
  refine Compare_chain (thn (ha pins s σ H _ I h) fun v s1 ⟨x, H1, I1, r1, q1⟩ => chain_link (thn (hb pins s1 σ H1 _ I1 q1) fun u s2 ⟨y, H2, I2, r2, q2⟩ =>
    thn (ho pins s2 σ H2 x y v u _ I2 r1 r2 q2) fun d s3 ⟨z, H3, I3, r3, k, e, q3⟩ => ?_)) hm
  subst e
  cases r3
  refine wpAny_truthy_bool ?_
  cases k with
  | false => exact ite_ff ⟨.bl false, H3, I3, rfl, q3⟩
  | true => exact ite_tt (chain_last (thn (hc pins s3 σ H3 _ I3 q3) fun w' s4 ⟨z', H4, I4, r4, q4⟩ => ho' pins s4 σ H4 y z' u w' Q I4 r2 r4 q4))
theorem pt_chain {op op' : CmpOp} {r r' : R2} (ho : OpR X (compareOp op) r) (ho' : OpR X (compareOp op') r') (ha : PE X a ta) (hb : PE X b tb) (hc : PE X c tc)
    (hm : lastMarks [op, op'] [b, c] = false := by with_unfolding_all rfl) : PT X (.Compare a [op, op'] [b, c] pos) (tTest (tChain r r' ta tb tc)) := by
  intro pins s σ H Q I h
  refine isTrue_chain (thn (ha pins s σ H _ I h) fun v s1 ⟨x, H1, I1, r1, q1⟩ => test_link (thn (hb pins s1 σ H1 _ I1 q1) fun u s2 ⟨y, H2, I2, r2, q2⟩ =>
    thn (ho pins s2 σ H2 x y v u _ I2 r1 r2 q2) fun d s3 ⟨z, H3, I3, r3, k, e, q3⟩ => ?_)) hm
  subst e
  cases r3
  refine wpAny_truthy_bool ?_
  cases k with
  | false =>
    obtain ⟨k', e', q'⟩ := q3
    cases e'
    exact ite_ff ⟨H3, I3, q'⟩
  | true =>
    refine ite_tt (test_last (thn (hc pins s3 σ H3 _ I3 q3) fun w' s4 ⟨z', H4, I4, r4, q4⟩ => thn (ho' pins s4 σ H4 y z' u w' _ I4 r2 r4 q4) fun d' s5 ⟨z2, H5, I5, r5, k2, e2, q5⟩ => ?_))
    subst e2
    cases r5
    exact wpAny_truthy_bool ⟨H5, I5, q5⟩
theorem line63 : (sizeLine : Nat) < 2 ^ 63 := by rw [sizeLine_eq]; decide
theorem vals1 {x : V} {us : List Value} (r : Vals [x] us) : ∃ u, us = [u] ∧ RelV x u := by
  cases r with
  | cons r1 r2 => cases r2; exact ⟨_, rfl, r1⟩
theorem vals2 {x y : V} {us : List Value} (r : Vals [x, y] us) : ∃ u w', us = [u, w'] ∧ RelV x u ∧ RelV y w' := by
  cases r with
  | cons r1 r2 =>
    cases r2 with
    | cons r3 r4 => cases r4; exact ⟨_, _, rfl, r1, r3⟩
end
end L2
namespace L2
open PySem PySem.Spec PyProof.Rows
structure ObjM (h : Heap) (x dx C : Addr) (mA : Str → Option Value) : Prop where
  obj : h.get? x = some (PySem.W.instObj C dx)
  ns : h.Ns1 dx mA
  ne : dx ≠ x
theorem lookIn_ns {h : Heap} {dx : Addr} {mA : Str → Option Value} (n : h.Ns1 dx mA) : ∃ od, h.get? dx = some od ∧ ∀ name, PySem.W.lookIn name od = some (mA name) := by
  obtain ⟨o, es, ep, ho, hd, hk, _, hm⟩ := n
  refine ⟨o, ho, fun name => ?_⟩
  have e := hm name
  unfold nsFind findBy at e
  rw [← Array.find?_toList] at e
  unfold PySem.W.lookIn
  rw [hd]
  dsimp only
  split
  · rename_i y q
    rw [q] at e
    exact congrArg some e
  · rename_i q
    rw [q] at e
    have a : es.toList.any (·.refKey) = false := by
      rw [List.any_eq_false]
      intro y hy
      obtain ⟨z, t, hkey⟩ := hk y (Array.mem_toList_iff.mp hy)
      simp [DictEntry.refKey, hkey]
    have a' : ¬ es.toList.any (·.refKey) = true := by rw [a]; exact Bool.false_ne_true
    rw [if_neg a']
    exact congrArg some e
theorem ObjM.look {h : Heap} {x dx C : Addr} {mA : Str → Option Value} (I : ObjM h x dx C mA) : ∃ od, PySem.W.InstAt h x (PySem.W.instObj C dx) C (some od) ∧ ∀ name, PySem.W.lookIn name od = some (mA name) :=
  let ⟨od, ho, hl⟩ := lookIn_ns I.ns
  ⟨od, ⟨I.obj, rfl, rfl, ho⟩, hl⟩
section
variable {P : Program} {w : World} {H H' : Hp} {h h' : Heap} {a C dx : Addr} {fs fs' : List (Str × V)}
theorem ins_get (hok : HOk P w H h) (e : H a = some (.ins C dx fs)) : ∃ mA, ObjM h a dx C mA ∧ (∀ f, RelO (fs.lookup f) (mA f)) ∧ PySem.Within mA (fs.map (·.1)) ∧ fs.length ≤ 1000 ∧ H dx = some (.own a) := by
  obtain ⟨d, z, ne, ob, mA, n, r, q⟩ := (show ObjOk P w H h a (.ins C dx fs) from hok a _ e)
  exact ⟨mA, ⟨ob, n, ne⟩, r, q, z, d⟩
end
structure Cls (K : PySem.W.Frag) (C : Addr) : Prop where
  pg : PySem.W.plainGet K C Str.empty = true
  hd : PySem.W.hasDictIn K C = true
  po : PySem.W.plainOver K C = true
  sa : PySem.W.findIn K (.ref C) "__setattr__" = some (some (.builtin "object.__setattr__"))
theorem Cls.get {K : PySem.W.Frag} {C : Addr} (c : Cls K C) (f : Str) : PySem.W.plainGet K C f = true := c.pg
section
variable {X : Cx} {pins : List (Addr × Obj)} {σ : St} {H : Hp} {s : Shared} {A : Around} {E : Value → Shared → Prop} {Q : Value → Shared → Prop} {c : Value} {b : Bool}
inductive TyOf (K : PySem.W.Frag) (H : Hp) : V → Value → Prop where
  | non : TyOf K H .non (.type "NoneType")
  | bl (x : Bool) : TyOf K H (.bl x) (.type "bool")
  | int (i : Int) : TyOf K H (.int i) (.type "int")
  | str (x : Str) : TyOf K H (.str x) (.type "str")
  | flt (x : UInt64) : TyOf K H (.flt x) (.type "float")
  | lst {a : Addr} {xs : List V} (e : H a = some (.lst xs)) : TyOf K H (.ref a) (.type "list")
  | frz {a : Addr} {o : Obj} {xs : List V} (e : H a = some (.frz o (.lst xs))) : TyOf K H (.ref a) (.type "list")
  | tup {a : Addr} {xs : List V} (e : H a = some (.tup xs)) : TyOf K H (.ref a) (.type "tuple")
  | dK {a : Addr} {kvs : List (Key × V)} (e : H a = some (.dK kvs)) : TyOf K H (.ref a) (.type "dict")
  | dT {a : Addr} {kvs : List (List Key × V)} (e : H a = some (.dT kvs)) : TyOf K H (.ref a) (.type "dict")
  | ins {a C dx : Addr} {fs : List (Str × V)} (e : H a = some (.ins C dx fs)) (cl : Cls K C) (ha : PySem.W.findIn K (.ref C) "__class__" = some (some (.builtin "object.__class__")))
      (hn : PySem.W.specialIn K (.builtin "object.__class__") "__get__" = some (some (.builtin "getset_descriptor.__get__"))) (htk : PySem.W.takesIn K (.builtin "object.__class__") = some true)
      (hm : PySem.W.mroIn K C (.type "object") = some true) : TyOf K H (.ref a) (.ref C)
end
end L2
namespace L2
open PySem PySem.Spec PyProof.Rows
structure Room (k : Nat) (A : Around) : Prop where
  hd : A.handled = none
  dp : A.depth + 3 * k + 5 < recursionLimit
  un : A.units + 16 * k + 200 < cLine
theorem Room.mono {j k : Nat} {A : Around} (r : Room k A) (h : j ≤ k) : Room j A := ⟨r.hd, by have := r.dp; omega, by have := r.un; omega⟩
theorem Room.deeper {k : Nat} {A : Around} (r : Room (k + 1) A) (env : Env) : Room k (A.deeper env) :=
  ⟨r.hd, by have := r.dp; show A.depth + 1 + 3 * k + 5 < _; omega, by have := r.un; show A.units + 3 + 16 * k + 200 < _; omega⟩
theorem Room.in1 {k : Nat} {A : Around} (r : Room (k + 1) A) : Room k A.in1 :=
  ⟨r.hd, by have := r.dp; show A.depth + 3 * k + 5 < _; omega, by have := r.un; show A.units + 1 + 16 * k + 200 < _; omega⟩
theorem Room.depth {k : Nat} {A : Around} (r : Room k A) : A.depth < recursionLimit := by have := r.dp; omega
theorem Room.units {k : Nat} {A : Around} (r : Room k A) : A.units + 64 < cLine := by have := r.un; omega
def tNil : TA := fun _ H Q => Q [] H
def tCons (ta : TE) (tr : TA) : TA := fun σ H Q => ta σ H fun x H1 => tr σ H1 fun xs H2 => Q (x :: xs) H2
section
variable {X : Cx} {e : Expr} {es : List Expr} {te : TE} {t : TA} {pos : Pos}
theorem pa_nil : PA X [] tNil := fun _ _ _ _ H Q I h => Calls.spliced_nil ⟨[], H, I, .nil, h⟩
theorem pa_cons (ha : PE X e te) (hr : PA X es t) (hs : starEach (e :: es) X.env = (false, eval e X.env) :: starEach es X.env := by rfl) : PA X (e :: es) (tCons te t) := by
  intro pos pins s σ H Q I h
  rw [hs]
  show wpAny _ _ (spliced ((false, eval e X.env) :: backTo pos (starEach es X.env))) _ _ s
  refine Calls.spliced_cons (thn (ha pins s σ H _ I h) fun u s1 ⟨x, H1, I1, r1, q1⟩ => ?_)
  exact thn (hr pos pins s1 σ H1 _ I1 q1) fun us s2 ⟨xs, H2, I2, r2, q2⟩ => ⟨x :: xs, H2, I2, .cons r1 r2, q2⟩
def tTup (t : TA) : TE := fun σ H Q => t σ H fun xs H1 => xs.length ≤ sizeLine ∧ ∀ p, H1 p = none → Q (.ref p) (upd H1 p (.tup xs))
def tLst (t : TA) : TE := fun σ H Q => t σ H fun xs H1 => xs.length ≤ sizeLine ∧ ∀ p, H1 p = none → Q (.ref p) (upd H1 p (.lst xs))
theorem pe_tup {x1} (h : PA X es t) : PE X (.Tuple es x1 pos) (tTup t) := by
  intro pins s σ H Q I hq
  refine wpAny_Tuple_spliced (thn (h pos pins s σ H _ I hq) fun us s1 ⟨xs, H1, I1, r, z, q⟩ => ⟨by rw [← r.length]; exact z, ?_⟩)
  have hf : H1 s1.heap.objs.size = none := I1.hok.fresh (Nat.le_refl _)
  refine ⟨.ref s1.heap.objs.size, upd H1 s1.heap.objs.size (.tup xs), I1.laid (t' := s1.toks) (fun b u e => Heap.get?_push_of_some _ e) (Nat.le_refl _) ?_, rfl, q _ hf⟩
  exact ⟨z, us, r, ⟨_, Heap.get?_push_size _ rfl, rfl, _, rfl⟩⟩
theorem pe_lst (h : PA X es t) : PE X (.List es pos) (tLst t) := by
  intro pins s σ H Q I hq
  refine wpAny_List_spliced (thn (h pos pins s σ H _ I hq) fun us s1 ⟨xs, H1, I1, r, z, q⟩ => ⟨by rw [← r.length]; exact z, ?_⟩)
  have hf : H1 s1.heap.objs.size = none := I1.hok.fresh (Nat.le_refl _)
  refine ⟨.ref s1.heap.objs.size, upd H1 s1.heap.objs.size (.lst xs), I1.laid (t' := s1.toks) (fun b u e => Heap.get?_push_of_some _ e) (Nat.le_refl _) ?_, rfl, q _ hf⟩
  exact ⟨z, us, 0, r, Heap.get?_push_size _ rfl⟩
end
abbrev Sp := List V → Hp → VK → XK → Prop
abbrev CXT := List Env → Hp → Shared → XK → Value → Shared → Prop
structure Env0 (P : Program) (w : World) (K : PySem.W.Frag) (mg : Str → Option Value) (base : Heap) (A : Around) (outer : List Env) (s : Shared) (H : Hp) : Prop where
  frames : A.frames = some outer
  mod : Mod K mg base
  bs : ∀ b o, base.get? b = some o → s.heap.get? b = some o ∧ H b = none
  bsz : base.objs.size ≤ s.heap.objs.size
  funs : s.heap.FunFrames base outer
  frf : ∀ b ∈ frs outer, H b = none
  hok : HOk P w H s.heap
  bare : AllBare s.gens
def CE (outer : List Env) (P : Program) (w : World) (H : Hp) (s : Shared) (Q : VK) (u : Value) (s' : Shared) : Prop :=
  ∃ v H', s'.os = s.os ∧ AllBare s'.gens ∧ Un (frs outer) [] H H' s.heap s'.heap ∧ HOk P w H' s'.heap ∧ RelV v u ∧ Q v H'
def CR (CX : CXT) (outer : List Env) (P : Program) (w : World) (H : Hp) (s : Shared) (Q : VK) (E : XK) (r : Result) (s' : Shared) : Prop :=
  match r with
  | .ok (.ret u) => CE outer P w H s Q u s'
  | .ok _ => False
  | .error e => CX outer H s E e s'
structure FnOk (P : Program) (w : World) (K : PySem.W.Frag) (mg : Str → Option Value) (base : Heap) (CX : CXT) (k : Nat) (f : Addr) (fd : FuncData) (ps : List Str) (sp : Sp) : Prop where
  len : ∀ vs H Q E, sp vs H Q E → vs.length = ps.length
  run : ∀ (A : Around) (outer : List Env) (s : Shared) (H : Hp) (args : Args) (us : List Value) (vs : List V) (Q : VK) (E : XK), Room k A → Env0 P w K mg base A outer s H → BindsTo s fd args (ps.zip us) → Vals vs us → sp vs H Q E →
    codeAny (model P w) A (.call (.ref f) args) (CR CX outer P w H s Q E) s
section
variable {X : Cx} {pins : List (Addr × Obj)} {σ : St} {H : Hp} {s s' : Shared}
theorem Inv.env0 (I : Inv X pins σ H s) : Env0 X.prog X.w X.K X.mg X.base X.A X.stack s H :=
  ⟨I.ok.frames, I.ok.mod, I.bs, Nat.le_trans I.ok.bsz I.sz, I.stack, I.stkFree, I.hok, I.bare⟩
theorem Inv.after {Q : VK} {u : Value} (I : Inv X pins σ H s) (h : CE X.stack X.prog X.w H s Q u s') : EP X pins σ Q u s' := by
  obtain ⟨v, H', os, bare, un, hok, r, q⟩ := h
  obtain ⟨hh, g, d, t, os'⟩ := s'
  obtain rfl : os' = s.os := os
  exact ⟨v, H', I.call (h' := hh) (g' := g) (d' := d) (t' := t) (ch := []) un hok bare (fun b z => absurd z (by simp)), r, q⟩
end
def tCall (sp : Sp) (dvs : List V) (E : XK) (t : TA) : TE := fun σ H Q => t σ H fun vs H1 => sp (vs ++ dvs) H1 Q E
def Binds (K : PySem.W.Frag) (fd : FuncData) (ps : List Str) (ds : List Value) : Prop :=
  ∀ (s : Shared) (us : List Value), K.In s.heap → (us ++ ds).length = ps.length → BindsTo s fd ⟨us, []⟩ (ps.zip (us ++ ds))
theorem Binds.all {K : PySem.W.Frag} {fd : FuncData} {ps : List Str} (h : ∀ us : List Value, us.length = ps.length → bindArgs fd ⟨us, []⟩ = pure (ps.zip us)) : Binds K fd ps [] := fun s us _ hl => by
  rw [List.append_nil] at hl ⊢
  exact .of_eq (h us hl)
def Passes (CX : CXT) (X : Cx) (E : XK) : Prop := ∀ (pins : List (Addr × Obj)) (σ : St) (H : Hp) (s : Shared) (e : Value) (s' : Shared), Inv X pins σ H s → CX X.stack H s E e s' → X.xe e s'
section
variable {X : Cx} {CX : CXT} {k : Nat} {f C : Addr} {fd : FuncData} {ps : List Str} {sp : Sp} {dvs : List V} {ds : List Value} {E : XK} {x m : Str} {p pos apos : Pos} {e o : Expr} {es : List Expr} {ta : TE} {t : TA}
theorem run_fn {pins : List (Addr × Obj)} {σ : St} {H : Hp} {s : Shared} {Q : VK} {us : List Value} {vs : List V} (F : FnOk X.prog X.w X.K X.mg X.base CX k f fd ps sp) (hr : Room k X.A) (hb : Binds X.K fd ps ds) (hd : Vals dvs ds) (hx : Passes CX X E)
    (I : Inv X pins σ H s) (r : Vals vs us) (h : sp (vs ++ dvs) H Q E) : wpAny (model X.prog X.w) X.A (call (.ref f) us) (EP X pins σ Q) X.xe s := by
  have r2 : Vals (vs ++ dvs) (us ++ ds) := r.append hd
  have hl : (us ++ ds).length = ps.length := by rw [← r2.length]; exact F.len _ _ _ _ h
  refine wpAny_call (codeAny_mono (F.run X.A X.stack s H ⟨us, []⟩ (us ++ ds) (vs ++ dvs) Q E hr I.env0 (hb s us I.kIn hl) r2 h) fun r s' hq => ?_)
  cases r with
  | error e => exact hx pins σ H s e s' I hq
  | ok fl =>
    cases fl with
    | ret u => exact I.after hq
    | next => exact False.elim hq
    | brk => exact False.elim hq
    | cont => exact False.elim hq
theorem pe_call (F : FnOk X.prog X.w X.K X.mg X.base CX k f fd ps sp) (hr : Room k X.A) (hg : Gl X x) (hm : X.mg x = some (.ref f)) (hk : PySem.W.keepIn X.K (.ref f) = true) (hb : Binds X.K fd ps ds) (hd : Vals dvs ds) (hx : Passes CX X E)
    (ha : PA X (e :: es) t) (hdb : (x == ("__debug__" : Str)) = false := by decide) (he : starEach (e :: es) X.env = (false, eval e X.env) :: starEach es X.env := by rfl) (hpl : (backTo pos (starEach es X.env)).any (·.1) = false := by rfl) :
    PE X (.Call (.Name x p) (e :: es) [] pos) (tCall sp dvs E t) := by
  intro pins s σ H Q I h
  refine wpAny_Call_Name_kw (ld_glob I hg hm ?_ hdb)
  refine PySem.W.callWith_K (h₀ := X.base) I.ok.mod.kin hk (thn (ha pos pins s σ H _ I h) fun us s1 ⟨vs, H1, I1, r, q⟩ => ⟨I1.kIn, ?_⟩) he hpl
  exact run_fn F hr hb hd hx I1 r q
end
def PK (X : Cx) (kws : List Keyword) (t : TA) : Prop :=
  ∀ (pos : Pos) (pins : List (Addr × Obj)) (s : Shared) (σ : St) (H : Hp) (Q : List V → Hp → Prop), Inv X pins σ H s → t σ H Q → wpAny (model X.prog X.w) X.A (evalAll ((backToKw pos (keywordEach kws X.env)).map (·.2))) (AP X pins σ Q) X.xe s
section
variable {X : Cx} {CX : CXT} {k : Nat} {f C : Addr} {fd : FuncData} {ps ks : List Str} {sp : Sp} {E : XK} {x m : Str} {p pos apos kpos : Pos} {e o : Expr} {es : List Expr} {kws : List Keyword} {te ta : TE} {t tk : TA} {nm : Option Str}
theorem pk_nil : PK X [] tNil := fun _ _ _ _ H Q I h => wpAny_evalAll_nil ⟨[], H, I, .nil, h⟩
theorem pk_cons (ha : PE X e te) (hr : PK X kws t) : PK X (⟨nm, e, kpos⟩ :: kws) (tCons te t) := by
  intro pos pins s σ H Q I h
  show wpAny _ _ (evalAll ((do let v ← eval e X.env; standAt pos; pure v) :: (backToKw pos (keywordEach kws X.env)).map (·.2))) _ _ s
  refine wpAny_evalAll_cons (wpAny_bind (thn (ha pins s σ H _ I h) fun u s1 ⟨x, H1, I1, r1, q1⟩ => wpAny_bind (wpAny_standAt (wpAny_pure ?_))))
  exact thn (hr pos pins s1 σ H1 _ I1 q1) fun us s2 ⟨xs, H2, I2, r2, q2⟩ => ⟨x :: xs, H2, I2, .cons r1 r2, q2⟩
end
structure FnScope (N P : List Str) (sc : Scope) : Prop where
  kind : sc.kind = .function
  co : sc.isCoroutine = false
  gen : sc.isGenerator = false
  nd : N.Nodup
  pre : N.take P.length = P
  par : ∀ x ∈ P, sc.names.lookup x = some .local ∨ sc.names.lookup x = some .cell
  nofree : ∀ y ∈ sc.names, y.2 ≠ .free
theorem bindL_out {kindOf : Str → Option NameKind} {x : Str} : ∀ {binds : List (Str × Value)} {m : Str → Option Value}, (∀ v, (x, v) ∉ binds) → bindL kindOf binds m x = m x
  | [], _, _ => rfl
  | (n, v) :: r, m, h => by
    unfold bindL
    rw [bindL_out fun w hw => h w (List.mem_cons_of_mem _ hw)]
    split
    · have : x ≠ n := by rintro rfl; exact h v List.mem_cons_self
      simp [this]
    · rfl
theorem bindC_out {kindOf : Str → Option NameKind} {x : Str} : ∀ {binds : List (Str × Value)} {m : Str → Option Value}, (∀ v, (x, v) ∉ binds) → bindC kindOf binds m x = m x
  | [], _, _ => rfl
  | (n, v) :: r, m, h => by
    unfold bindC
    rw [bindC_out fun w hw => h w (List.mem_cons_of_mem _ hw)]
    split
    · rfl
    · have : x ≠ n := by rintro rfl; exact h v List.mem_cons_self
      simp [this]
theorem bindL_get {kindOf : Str → Option NameKind} {x : Str} {v : Value} : ∀ {P : List Str} {vs : List Value} {i : Nat} {m : Str → Option Value}, P.Nodup → P[i]? = some x → vs[i]? = some v → kindOf x = some .local →
    bindL kindOf (P.zip vs) m x = some v
  | [], _, _, _, _, h, _, _ => by simp at h
  | _ :: _, [], _, _, _, _, h, _ => by simp at h
  | p :: P, w :: vs, 0, m, nd, h1, h2, hk => by
    simp at h1 h2; subst h1; subst h2
    show bindL kindOf ((p, w) :: P.zip vs) m p = _
    unfold bindL
    rw [bindL_out fun v hv => (List.nodup_cons.mp nd).1 (List.of_mem_zip hv).1, if_pos hk]
    simp
  | p :: P, w :: vs, i + 1, m, nd, h1, h2, hk => by
    show bindL kindOf ((p, w) :: P.zip vs) m x = _
    unfold bindL
    exact bindL_get (i := i) (List.nodup_cons.mp nd).2 (by simpa using h1) (by simpa using h2) hk
theorem bindC_get {kindOf : Str → Option NameKind} {x : Str} {v : Value} : ∀ {P : List Str} {vs : List Value} {i : Nat} {m : Str → Option Value}, P.Nodup → P[i]? = some x → vs[i]? = some v → kindOf x ≠ some .local →
    bindC kindOf (P.zip vs) m x = some v
  | [], _, _, _, _, h, _, _ => by simp at h
  | _ :: _, [], _, _, _, _, h, _ => by simp at h
  | p :: P, w :: vs, 0, m, nd, h1, h2, hk => by
    simp at h1 h2; subst h1; subst h2
    show bindC kindOf ((p, w) :: P.zip vs) m p = _
    unfold bindC
    rw [bindC_out fun v hv => (List.nodup_cons.mp nd).1 (List.of_mem_zip hv).1, if_neg hk]
    simp
  | p :: P, w :: vs, i + 1, m, nd, h1, h2, hk => by
    show bindC kindOf ((p, w) :: P.zip vs) m x = _
    unfold bindC
    exact bindC_get (i := i) (List.nodup_cons.mp nd).2 (by simpa using h1) (by simpa using h2) hk
def start (N : List Str) (vs : List V) : St := vs.map some ++ List.replicate (N.length - vs.length) none
def cxOf (CX : CXT) (P : Program) (w : World) (K : PySem.W.Frag) (mg : Str → Option Value) (base : Heap) (N : List Str) (qual : Str) (scope : Scope) (f : Addr) (cd : Value) (A : Around) (outer : List Env) (s : Shared) (H : Hp) (E : XK) : Cx where
  prog := P
  w := w
  K := K
  mg := mg
  base := base
  A := A.deeper (envOfC qual scope s.heap.objs.size f cd)
  N := N
  s₀ := s
  H₀ := H
  env := envOfC qual scope s.heap.objs.size f cd
  outer := outer
  stack := envOfC qual scope s.heap.objs.size f cd :: outer
  ex := []
  calm := true
  fn := fun _ => true
  pn := []
  xe := fun e s' => wpAny (model P w) (A.deeper (envOfC qual scope s.heap.objs.size f cd)) (leaving (envOfC qual scope s.heap.objs.size f cd) e) (fun _ s'' => CX outer H s E e s'') (fun e' s'' => CX outer H s E e' s'') s'
theorem cell_has {sc : Scope} {n : Nat} {x : Str} (h : sc.names.lookup x = some .cell) : ∃ c, (cellsFrom n sc.names []).lookup x = some c := by
  have q := PySem.W.cellsFrom_some sc.names n [] (.inl h)
  exact Option.isSome_iff_exists.mp q
theorem inv_start {CX : CXT} {P : Program} {w : World} {K : PySem.W.Frag} {mg : Str → Option Value} {base : Heap} {N ps : List Str} {qual : Str} {scope : Scope} {f : Addr} {cd : Value} {A : Around} {outer : List Env} {s s1 : Shared} {H : Hp} {E : XK} {us : List Value} {vs : List V}
    (S : FnScope N ps scope) (hd : A.handled = none) (e0 : Env0 P w K mg base A outer s H) (hl : vs.length = ps.length) (r : Vals vs us)
    (x : InCallC s s.heap.objs.size (bindL (envOfC qual scope s.heap.objs.size f cd).kindOf (ps.zip us) fun _ => none) (cellsFrom (s.heap.objs.size + 1) scope.names []) (bindC (envOfC qual scope s.heap.objs.size f cd).kindOf (ps.zip us) fun _ => none) s1) :
    Inv (cxOf CX P w K mg base N qual scope f cd A outer s H E) [] (start N vs) H s1 := by
  have hpl : ps.length ≤ N.length := by have := congrArg List.length S.pre; rw [List.length_take] at this; omega
  obtain ⟨h1, tk, rfl, hk⟩ := x.done
  have noA : ∀ b : Addr, b ∉ (cxOf CX P w K mg base N qual scope f cd A outer s H E).ex := fun b z => absurd (show b ∈ ([] : List Addr) from z) (by simp)
  refine ⟨⟨e0.mod, S.kind, rfl, rfl, Nat.le_refl _, fun y z c h1 h2 => ?_, fun y hy => ?_, fun y c _ h => ?_, fun _ => hd, Around.frames_deeper e0.frames, .inr ⟨rfl, rfl⟩, fun b z => absurd z (noA b), e0.bs, e0.bsz, fun b _ _ => noA b, fun b z => absurd z (noA b), e0.funs, e0.frf⟩,
    rfl, e0.bare, Un.kept hk, ⟨_, x.toInCall.ns, fun i y v h1 h2 h3 => ?_⟩, fun y c h => ⟨_, x.cell y c h⟩, e0.hok.fresh (Nat.le_refl _), fun y c h => ?_, fun p hp => absurd (show p ∈ ([] : List (Addr × Obj)) from hp) (by simp), e0.hok.kept hk, ?_⟩
  · exact name_of_addr x.apart (PySem.mem_of_lookup h1) (PySem.mem_of_lookup h2)
  · have hy : scope.names.lookup y = some .cell ∨ scope.names.lookup y = some .free := hy
    rcases hy with hy | hy
    · exact cell_has hy
    · exact absurd rfl (S.nofree _ (PySem.mem_of_lookup hy))
  · exact Nat.le_of_lt (x.above y c (PySem.mem_of_lookup h))
  · have hi : i < vs.length := by
      unfold start at h2
      by_cases hi : i < vs.length
      · exact hi
      · rw [List.getElem?_append_right (by simpa using hi)] at h2
        rw [List.getElem?_replicate] at h2
        split at h2 <;> cases h2
    have ha : vs[i]? = some v := by
      unfold start at h2
      rw [List.getElem?_append_left (by simpa using hi), List.getElem?_map] at h2
      cases e : vs[i]? with
      | none => rw [e] at h2; cases h2
      | some a => rw [e] at h2; cases h2; rfl
    obtain ⟨u, hu, rv⟩ := r.get ha
    have hp : ps[i]? = some y := by
      rw [← S.pre, List.getElem?_take_of_lt (by omega)]; exact h1
    have ndP : ps.Nodup := by rw [← S.pre]; exact S.nd.sublist (List.take_sublist _ _)
    refine ⟨u, rv, ?_⟩
    rcases S.par y (List.mem_of_getElem? hp) with k | k
    · exact .inl ⟨k, bindL_get ndP hp hu k⟩
    · obtain ⟨c, e⟩ := cell_has (n := s.heap.objs.size + 1) k
      refine .inr ⟨.inl k, c, e, ?_⟩
      have q := x.cell y c e
      rw [bindC_get ndP hp hu (by show scope.names.lookup y ≠ _; rw [k]; decide)] at q
      exact q
  · exact e0.hok.fresh (Nat.le_of_lt (x.above y c (PySem.mem_of_lookup h)))
  · unfold start
    show _ = N.length
    rw [List.length_append, List.length_map, List.length_replicate]
    omega
theorem fn_of {CX : CXT} {P : Program} {w : World} {K : PySem.W.Frag} {mg : Str → Option Value} {base : Heap} {k : Nat} {f : Addr} {name qual : Str} {params : Arguments} {body : List Stmt} {scope : Scope} {dV kV doc pm cdv ct oc : Value} {an od : Option Addr}
    {osl : Array (Option Value)} {N ps : List Str} {sp : Sp} (lk : K.lookup f = some ⟨oc, od, .func (PySem.W.fnOf name qual params body scope dV kV doc pm an cdv ct), osl⟩) (hcd : PySem.W.codeIn K cdv qual = true) (S : FnScope N ps scope)
    (len : ∀ vs H Q E, sp vs H Q E → vs.length = ps.length)
    (hbody : ∀ (A : Around) (outer : List Env) (s : Shared) (H : Hp) (vs : List V) (Q : VK) (E : XK), Room k (A.deeper (envOfC qual scope s.heap.objs.size f cdv)) → sp vs H Q E →
      ∃ t, PSs (cxOf CX P w K mg base N qual scope f cdv A outer s H E) body t ∧ t { nx := fun _ H' => Q .non H', rt := Q } (start N vs) H) :
    FnOk P w K mg base CX (k + 1) f (PySem.W.fnOf name qual params body scope dV kV doc pm an cdv ct) ps sp := by
  refine ⟨len, fun A outer s H args us vs Q E hr e0 hb r hsp => ?_⟩
  have hl := len _ _ _ _ hsp
  have KX : K.In s.heap := e0.mod.kin.keeps fun b o e => (e0.bs b o e).1
  have lim : s.heap.NoLimit := e0.mod.nolimit.keeps fun b o e => (e0.bs b o e).1
  have hkind : ∀ y ∈ ps.zip us, scope.names.lookup y.1 = some .local ∨ (scope.names.lookup y.1 = some .cell ∧ ((cellsFrom (s.heap.objs.size + 1) scope.names []).lookup y.1).isSome = true) := fun ⟨n, v⟩ hy => by
    rcases S.par n (List.of_mem_zip hy).1 with q | q
    · exact .inl q
    · exact .inr ⟨q, PySem.W.cellsFrom_some _ _ _ (.inl q)⟩
  refine codeAny_call_function hr.depth (KX _ _ lk) rfl S.co S.gen rfl (PySem.W.codeRec_of KX hcd) (hb _ _ _ _ ?_)
  refine wpAny_newFunctionEnv_cells S.kind hkind fun env he s1 x => ?_
  subst he
  refine ⟨lim.keeps x.toInCall.keep, codeAny_func ?_⟩
  obtain ⟨t, ht, hq⟩ := hbody A outer s H vs Q E (hr.deeper _) hsp
  have I : Inv (cxOf CX P w K mg base N qual scope f cdv A outer s H E) [] (start N vs) H s1 := inv_start S hr.hd e0 hl r x
  refine wpAny_mono (ht [] s1 (start N vs) H _ I hq) (fun fl s' hs => ?_) fun e s' hs => hs
  have fin : ∀ {σ' : St} {H' : Hp} {v : V} {u : Value}, Inv (cxOf CX P w K mg base N qual scope f cdv A outer s H E) [] σ' H' s' → RelV v u → Q v H' → CE outer P w H s Q u s' :=
    fun {σ' H' v u} J rv q => ⟨v, H', J.os, J.bare, J.base, J.hok, rv, q⟩
  cases fl with
  | ret u =>
    obtain ⟨v, σ', H', J, rv, q⟩ := hs
    exact fin J rv q
  | next =>
    obtain ⟨σ', H', J, q⟩ := hs
    exact fin (v := V.non) (u := Value.none) J rfl q
  | brk =>
    obtain ⟨_, _, _, q⟩ := hs
    exact False.elim q
  | cont =>
    obtain ⟨_, _, _, q⟩ := hs
    exact False.elim q
end L2
namespace L2
open PySem PySem.Spec PyProof.Rows
section
variable {X : Cx} {x : Str} {p pos : Pos} {e : Expr} {es : List Expr} {t : TA} {id T : String} {r : List V → Hp → VK → Prop}
def tCB (r : List V → Hp → VK → Prop) (t : TA) : TE := fun σ H Q => t σ H fun vs H1 => r vs H1 Q
theorem pe_callB (hc : CallR X (.builtin id) r) (hg : Gl X x) (hm : X.mg x = none) (hv : bootBuiltins x = some (.builtin id)) (ha : PA X (e :: es) t) (hn : x ≠ "__name__" := by decide) (hdb : (x == ("__debug__" : Str)) = false := by decide)
    (he : starEach (e :: es) X.env = (false, eval e X.env) :: starEach es X.env := by rfl) (hpl : (backTo pos (starEach es X.env)).any (·.1) = false := by rfl) : PE X (.Call (.Name x p) (e :: es) [] pos) (tCB r t) := by
  intro pins s σ H Q I h
  refine wpAny_Call_Name_kw (ld_blt I hg hm hv ?_ hn hdb)
  exact PyProof.Rows.callWith_builtin1 (thn (ha pos pins s σ H _ I h) fun us s1 ⟨vs, H1, I1, r1, q1⟩ => hc pins s1 σ H1 vs us Q I1 r1 q1) he hpl
theorem pe_callTy (hc : CallR X (.type T) r) (hg : Gl X x) (hm : X.mg x = none) (hv : bootBuiltins x = some (.type T)) (ha : PA X (e :: es) t) (hn : x ≠ "__name__" := by decide) (hdb : (x == ("__debug__" : Str)) = false := by decide)
    (he : starEach (e :: es) X.env = (false, eval e X.env) :: starEach es X.env := by rfl) (hpl : (backTo pos (starEach es X.env)).any (·.1) = false := by rfl) : PE X (.Call (.Name x p) (e :: es) [] pos) (tCB r t) := by
  intro pins s σ H Q I h
  refine wpAny_Call_Name_kw (ld_blt I hg hm hv ?_ hn hdb)
  exact PyProof.Rows.callWith_type1 (thn (ha pos pins s σ H _ I h) fun us s1 ⟨vs, H1, I1, r1, q1⟩ => hc pins s1 σ H1 vs us Q I1 r1 q1) he hpl
end
end L2
namespace HT
open PySem PyProof.Rows
section
variable {prog : Program} {w : World} {A : Around} {E : Value → Shared → Prop} {s : Shared}
def sIx (n d : Nat) : Option Int → Nat
  | none => d
  | some v => if v < 0 then (v + (n : Int)).toNat else min v.toNat n
theorem sIx_none (n d : Nat) : sIx n d none = d := rfl
theorem sIx_nat (n d k : Nat) : sIx n d (some (k : Int)) = min k n := by
  show (if (k : Int) < 0 then ((k : Int) + (n : Int)).toNat else min (k : Int).toNat n) = min k n
  rw [if_neg (by omega), Int.toNat_natCast]
end
end HT
namespace L2
open PySem PySem.Spec PyProof.Rows
abbrev TO := St → Hp → (Option Int → Hp → Prop) → Prop
def PO (X : Cx) (e : Option Expr) (t : TO) : Prop :=
  ∀ (pins : List (Addr × Obj)) (s : Shared) (σ : St) (H : Hp) (Q : Option Int → Hp → Prop), Inv X pins σ H s → t σ H Q →
    wpAny (model X.prog X.w) X.A (evalPart e X.env) (fun u s' => ∃ o H', Inv X pins σ H' s' ∧ IsPart u o ∧ Q o H') X.xe s
def tNoPart : TO := fun _ H Q => Q none H
def tPart (t : TE) : TO := fun σ H Q => t σ H fun x H1 => ∃ i, x = .int i ∧ Q (some i) H1
section
variable {X : Cx} {e : Expr} {te : TE} {lo hi : Option Expr} {tl th : TO} {pos p2 : Pos}
theorem po_none : PO X none tNoPart := by
  intro pins s σ H Q I h
  rw [evalPart_none]
  exact wpAny_pure ⟨none, H, I, .none, h⟩
theorem po_some (h : PE X e te) : PO X (some e) (tPart te) := by
  intro pins s σ H Q I hw
  rw [evalPart_some]
  refine thn (h pins s σ H _ I hw) fun u s1 ⟨x, H1, I1, r1, q1⟩ => ?_
  obtain ⟨i, rfl, q⟩ := q1
  obtain ⟨t, rfl⟩ := r1
  exact ⟨some i, H1, I1, .int i t, q⟩
def SlR (X : Cx) (r : V → Option Int → Option Int → Hp → VK → Prop) : Prop :=
  ∀ (pins : List (Addr × Obj)) (s : Shared) (σ : St) (H : Hp) (x : V) (v vl vu : Value) (lo hi : Option Int) (sl : Addr) (Q : VK), Inv X pins σ H s → RelV x v → s.heap.IsSliceOf sl vl vu .none → IsPart vl lo → IsPart vu hi → r x lo hi H Q →
    ∃ T id, typeLookup (.type T) "__getitem__" = pure (some (.builtin id)) ∧ s.TypeIs v T ∧ wpAny (model X.prog X.w) X.A (getItem v (.ref sl)) (EP X pins σ Q) X.xe s
def tSl (r : V → Option Int → Option Int → Hp → VK → Prop) (te : TE) (tl th : TO) : TE := fun σ H Q => te σ H fun x H1 => tl σ H1 fun l H2 => th σ H2 fun u H3 => r x l u H3 Q
theorem pe_slice {r : V → Option Int → Option Int → Hp → VK → Prop} (hr : SlR X r) (he : PE X e te) (hl : PO X lo tl) (hu : PO X hi th) : PE X (.Subscript e (.Slice lo hi none p2) pos) (tSl r te tl th) := by
  intro pins s σ H Q I h
  refine Subscript_ (thn (he pins s σ H _ I h) fun v s1 ⟨x, H1, I1, r1, q1⟩ => ?_)
  refine wpAny_Slice (thn (hl pins s1 σ H1 _ I1 q1) fun vl s2 ⟨l, H2, I2, pl, q2⟩ => thn (hu pins s2 σ H2 _ I2 q2) fun vu s3 ⟨u, H3, I3, pu, q3⟩ => ?_)
  rw [evalPart_none]
  refine wpAny_pure ?_
  have I4 : Inv X pins σ H3 { s3 with heap := s3.heap.push { cls := .type "slice", data := .fields #[vl, vu, .none] } } := I3.kept (t' := s3.toks) fun b ob q => Heap.get?_push_of_some _ q
  obtain ⟨T, id, hT, ht, hg⟩ := hr pins { s3 with heap := s3.heap.push { cls := .type "slice", data := .fields #[vl, vu, .none] } } σ H3 x v vl vu l u s3.heap.objs.size Q I4 r1 (Heap.IsSliceOf.new ..) pl pu q3
  show wpAny (model X.prog X.w) X.A (subscriptTail e (.Slice lo hi none p2) v (.ref s3.heap.objs.size)) (EP X pins σ Q) X.xe { s3 with heap := s3.heap.push { cls := .type "slice", data := .fields #[vl, vu, .none] } }
  exact tail_any (ops := [.ref s3.heap.objs.size, v]) ht hT hg (by with_unfolding_all rfl)
def cutV (xs : List V) (lo hi : Option Int) : List V := (xs.drop (HT.sIx xs.length 0 lo)).take (HT.sIx xs.length xs.length hi - HT.sIx xs.length 0 lo)
theorem cutV_length (xs : List V) (lo hi : Option Int) : (cutV xs lo hi).length ≤ xs.length := by
  unfold cutV
  rw [List.length_take, List.length_drop]
  omega
end
end L2
namespace L2
open PySem PySem.Spec PyProof.Rows
def ixN (n : Nat) (i : Int) : Option Nat := if 0 ≤ i then (if i < n then some i.toNat else none) else if -(n : Int) ≤ i then some (i + n).toNat else none
def atI {α : Type} (xs : List α) (i : Int) : Option α := (ixN xs.length i).bind fun j => xs[j]?
theorem ixN_seq {n : Nat} {i : Int} {j : Nat} (h : ixN n i = some j) : seqIndex? i n = some j ∧ j < n ∧ -(n : Int) ≤ i ∧ i < n := by
  unfold ixN at h
  by_cases h0 : 0 ≤ i
  · rw [if_pos h0] at h
    by_cases h1 : i < n
    · rw [if_pos h1] at h
      have e : i.toNat = j := Option.some.inj h
      exact ⟨by rw [seqIndex_of h0 h1, e], by omega, by omega, h1⟩
    · rw [if_neg h1] at h; cases h
  · rw [if_neg h0] at h
    by_cases h1 : -(n : Int) ≤ i
    · rw [if_pos h1] at h
      have e : (i + n).toNat = j := Option.some.inj h
      exact ⟨by rw [seqIndex_neg (by omega) h1, e], by omega, h1, by omega⟩
    · rw [if_neg h1] at h; cases h
theorem atI_get {α : Type} {xs : List α} {i : Int} {v : α} (h : atI xs i = some v) : ∃ j, seqIndex? i xs.length = some j ∧ xs[j]? = some v ∧ j < xs.length ∧ -(xs.length : Int) ≤ i ∧ i < xs.length := by
  unfold atI at h
  cases e : ixN xs.length i with
  | none => rw [e] at h; cases h
  | some j =>
    rw [e] at h
    obtain ⟨h1, h2, h3, h4⟩ := ixN_seq e
    exact ⟨j, h1, h, h2, h3, h4⟩
theorem atI_nat {α : Type} {xs : List α} {j : Nat} {v : α} (h : xs[j]? = some v) : atI xs (j : Int) = some v := by
  have hj : j < xs.length := (List.getElem?_eq_some_iff.mp h).1
  have e : ixN xs.length (j : Int) = some j := by
    unfold ixN
    rw [if_pos (by omega), if_pos (by omega)]; simp
  unfold atI; rw [e]; exact h
def PlainIx (b : Expr) : Prop := ∀ o i, subscripted b false o i = operate [o, i] (getItem o i)
def IxR (X : Cx) (r : R2) : Prop :=
  ∀ (value slice : Expr) (pins : List (Addr × Obj)) (s : Shared) (σ : St) (H : Hp) (x y : V) (v u : Value) (Q : VK), Inv X pins σ H s → RelV x v → RelV y u → r x y H Q →
    subscripted slice false v u = operate [v, u] (getItem v u) → wpAny (model X.prog X.w) X.A (subscriptTail value slice v u) (EP X pins σ Q) X.xe s
def MtR (X : Cx) (id : String) (r : V → List V → Hp → VK → Prop) : Prop :=
  ∀ (pins : List (Addr × Obj)) (s : Shared) (σ : St) (H : Hp) (x : V) (xs : List V) (v : Value) (us : List Value) (Q : VK), Inv X pins σ H s → RelV x v → Vals xs us → r x xs H Q →
    wpAny (model X.prog X.w) X.A (call (.builtin id) (v :: us)) (EP X pins σ Q) X.xe s
section
variable {X : Cx} {a b : Expr} {ta tb : TE} {pos : Pos}
theorem pe_ix {r : R2} (hr : IxR X r) (ha : PE X a ta) (hb : PE X b tb) (hs : PlainIx b) : PE X (.Subscript a b pos) (tOp r ta tb) := by
  intro pins s σ H Q I h
  exact Subscript_ (binT ha hb I h fun v u s2 x y H2 I2 rx ry q => hr a b pins s2 σ H2 x y v u Q I2 rx ry q (hs _ _))
def rIxL (K : PySem.W.Frag) : R2 := fun x y H Q => ∃ p xs i v, x = .ref p ∧ y = .int i ∧ SqL K H p xs ∧ atI xs i = some v ∧ Q v H
def rIxT (K : PySem.W.Frag) : R2 := fun x y H Q => ∃ p xs i v, x = .ref p ∧ y = .int i ∧ SqT K H p xs ∧ atI xs i = some v ∧ Q v H
theorem ix_list : IxR X (rIxL X.K) := by
  intro value slice pins s σ H x y v u Q I rx ry h hs
  obtain ⟨p, xs, i, z, rfl, rfl, hq, he, q⟩ := h
  cases rx
  obtain ⟨t, rfl⟩ := ry
  obtain ⟨its, r, pl, hz⟩ := I.list hq
  obtain ⟨j, h1, h2, h3, h4, h5⟩ := atI_get he
  obtain ⟨w, ew, rw'⟩ := r.get h2
  have hl := r.length
  have hn := line63
  have fin : EP X pins σ Q w s := ⟨z, H, I, rw', q⟩
  by_cases h0 : 0 ≤ i
  · have hj : i.toNat = j := by
      rw [seqIndex_of h0 h5] at h1
      exact Option.some.inj h1
    exact item_listR pl.isList h0 (by omega) (by rw [hj]; simpa using ew) fin hs
  · have hj : (i + (its.toArray.size : Int)).toNat = j := by
      rw [seqIndex_neg (by omega) h4] at h1
      rw [List.size_toArray, ← hl]
      exact Option.some.inj h1
    exact subscriptTail_builtinR (x := w) pl.isList.typeIs slot_list_getitem.lookup
      (wpAny_getItem_list_neg (Q := fun r s' => r = w ∧ EP X pins σ Q r s') pl.isList (by omega) (by rw [List.size_toArray] <;> omega) (by omega) (by rw [hj]; simpa using ew) ⟨rfl, fin⟩) hs
theorem ix_tup : IxR X (rIxT X.K) := by
  intro value slice pins s σ H x y v u Q I rx ry h hs
  obtain ⟨p, xs, i, z, rfl, rfl, hq, he, q⟩ := h
  cases rx
  obtain ⟨t, rfl⟩ := ry
  obtain ⟨its, r, pl, hz⟩ := I.tuple hq
  obtain ⟨j, h1, h2, h3, h4, h5⟩ := atI_get he
  obtain ⟨w, ew, rw'⟩ := r.get h2
  have hl := r.length
  have hn := line63
  have fin : EP X pins σ Q w s := ⟨z, H, I, rw', q⟩
  exact subscriptTail_builtinR (x := w) pl.typeIs slot_tuple_getitem.lookup
    (getItem_tuple (j := j) (Q := fun r s' => r = w ∧ EP X pins σ Q r s') pl (by omega) (by omega) (by rw [List.size_toArray, ← hl]; exact h1) (by simpa using ew) ⟨rfl, fin⟩) hs
theorem slice_bounds (lo hi : Option Int) (n : Nat) : (sliceBounds lo hi none n).1 = ((HT.sIx n 0 lo : Nat) : Int) ∧ (sliceBounds lo hi none n).2.1 = ((HT.sIx n n hi : Nat) : Int) ∧ (sliceBounds lo hi none n).2.2 = 1 := by
  refine ⟨?_, ?_, rfl⟩
  · cases lo with
    | none => simp [sliceBounds, HT.sIx]
    | some i =>
      simp only [sliceBounds, HT.sIx, Option.getD_none, show (1 : Int) > 0 by decide, if_true]
      by_cases h : i < 0
      · simp only [h, if_true] <;> omega
      · simp only [h, if_false] <;> omega
  · cases hi with
    | none => simp [sliceBounds, HT.sIx]
    | some i =>
      simp only [sliceBounds, HT.sIx, Option.getD_none, show (1 : Int) > 0 by decide, if_true]
      by_cases h : i < 0
      · simp only [h, if_true] <;> omega
      · simp only [h, if_false] <;> omega
theorem slicePick_cut (its : List Value) (lo hi : Option Int) : slicePick its.toArray lo hi none = ((its.drop (HT.sIx its.length 0 lo)).take (HT.sIx its.length its.length hi - HT.sIx its.length 0 lo)).toArray := by
  obtain ⟨h1, h2, h3⟩ := slice_bounds lo hi its.toArray.size
  unfold slicePick
  rw [h1, h2, h3]
  simp only [sliceRange_one, pick_run, List.size_toArray] <;> rfl
def rSlL (K : PySem.W.Frag) : V → Option Int → Option Int → Hp → VK → Prop := fun x lo hi H Q => ∃ a xs, x = .ref a ∧ SqL K H a xs ∧ ∀ p, H p = none → Q (.ref p) (upd H p (.lst (cutV xs lo hi)))
theorem sl_list : SlR X (rSlL X.K) := by
  intro pins s σ H x v vl vu lo hi sl Q I rx hs pl pu h
  obtain ⟨a, xs, rfl, hx, q⟩ := h
  cases rx
  obtain ⟨its, r, ht, hz⟩ := I.list hx
  have hlen := r.length
  refine ⟨"list", _, slot_list_getitem.lookup, ht.isList.typeIs, ?_⟩
  refine wpAny_getItem_list_slice ht.isList hs pl pu .none (by simp) ?_ (by rw [List.size_toArray] <;> omega)
  rw [slicePick_cut, ← hlen]
  refine ⟨.ref s.heap.objs.size, _, I.laid (t' := s.toks) (o := .lst (cutV xs lo hi)) (fun b ob q => Heap.get?_push_of_some _ q) (Nat.le_refl _) ?_, rfl, q _ (I.hok.fresh (Nat.le_refl _))⟩
  exact ⟨Nat.le_trans (cutV_length xs lo hi) hz, _, 0, (r.drop (HT.sIx xs.length 0 lo)).take (HT.sIx xs.length xs.length hi - HT.sIx xs.length 0 lo), Heap.get?_push_size _ rfl⟩
def flatV : V → Bool
  | .non => true
  | .bl _ => true
  | .int _ => true
  | .str _ => true
  | _ => false
def eqV : V → V → Bool
  | .non, .non => true
  | .bl a, .bl b => a == b
  | .bl a, .int b => (if a then 1 else 0) == b
  | .int a, .bl b => a == (if b then 1 else 0)
  | .int a, .int b => a == b
  | .str a, .str b => a == b
  | _, _ => false
theorem eqAt_V {A : Around} {s : Shared} {y x : V} {u v : Value} (ry : RelV y u) (rx : RelV x v) (fy : flatV y = true) (fx : flatV x = true) : SeqAt.EqAt A s u v (eqV y x) := by
  cases y with
  | non =>
    cases ry
    cases x with
    | non => cases rx; exact SeqAt.EqAt.same _
    | bl b => cases rx; exact SeqAt.EqAt.none_bool b
    | int b => obtain ⟨t, rfl⟩ := rx; exact SeqAt.EqAt.none_int b t
    | str b => obtain ⟨t, rfl⟩ := rx; exact SeqAt.EqAt.none_str b t
    | _ => exact absurd (show false = true from fx) Bool.false_ne_true
  | bl a =>
    cases ry
    cases x with
    | non => cases rx; exact SeqAt.EqAt.bool_none a
    | bl b => cases rx; exact SeqAt.EqAt.bool_bool a b
    | int b => obtain ⟨t, rfl⟩ := rx; exact SeqAt.EqAt.bool_int a b t
    | str b => obtain ⟨t, rfl⟩ := rx; exact SeqAt.EqAt.bool_str a b t
    | _ => exact absurd (show false = true from fx) Bool.false_ne_true
  | int a =>
    obtain ⟨t', rfl⟩ := ry
    cases x with
    | non => cases rx; exact SeqAt.EqAt.int_none a t'
    | bl b => cases rx; exact SeqAt.EqAt.int_bool a t' b
    | int b => obtain ⟨t, rfl⟩ := rx; exact SeqAt.EqAt.int_int a t' b t
    | str b => obtain ⟨t, rfl⟩ := rx; exact SeqAt.EqAt.int_str a t' b t
    | _ => exact absurd (show false = true from fx) Bool.false_ne_true
  | str a =>
    obtain ⟨t', rfl⟩ := ry
    cases x with
    | non => cases rx; exact SeqAt.EqAt.str_none a t'
    | bl b => cases rx; exact SeqAt.EqAt.str_bool a t' b
    | int b => obtain ⟨t, rfl⟩ := rx; exact SeqAt.EqAt.str_int a t' b t
    | str b => obtain ⟨t, rfl⟩ := rx; exact SeqAt.EqAt.str_str a t' b t
    | _ => exact absurd (show false = true from fx) Bool.false_ne_true
  | _ => exact absurd (show false = true from fy) Bool.false_ne_true
def eqU (x : V) (u : Value) : Bool := match u with
  | .none => eqV .non x
  | .bool b => eqV (.bl b) x
  | .int i _ => eqV (.int i) x
  | .str z _ => eqV (.str z) x
  | _ => false
theorem eqU_of {x y : V} {u : Value} (r : RelV y u) (f : flatV y = true) : eqU x u = eqV y x := by
  cases y with
  | non => cases r; rfl
  | bl b => cases r; rfl
  | int i => obtain ⟨t, rfl⟩ := r; rfl
  | str z => obtain ⟨t, rfl⟩ := r; rfl
  | _ => exact absurd (show false = true from f) Bool.false_ne_true
theorem any_eqU {x : V} : ∀ {xs : List V} {us : List Value}, Vals xs us → xs.all flatV = true → us.any (eqU x) = xs.any fun y => eqV y x
  | _, _, .nil, _ => rfl
  | y :: xs, u :: us, .cons r t, f => by
    rw [List.all_cons, Bool.and_eq_true] at f
    rw [List.any_cons, List.any_cons, eqU_of r f.1, any_eqU t f.2]
theorem mem_eqAt {A : Around} {s : Shared} {x : V} {v : Value} (rx : RelV x v) (fx : flatV x = true) : ∀ {xs : List V} {us : List Value}, Vals xs us → xs.all flatV = true → ∀ u ∈ us, SeqAt.EqAt A s u v (eqU x u)
  | _, _, .nil, _ => fun u hu => by cases hu
  | y :: xs, u :: us, .cons r t, f => fun u' hu => by
    rw [List.all_cons, Bool.and_eq_true] at f
    rcases List.mem_cons.mp hu with rfl | hu
    · rw [eqU_of r f.1]; exact eqAt_V r rx f.1 fx
    · exact mem_eqAt rx fx t f.2 u' hu
def inV (x : V) (xs : List V) : Bool := xs.any fun y => eqV y x
def rIn (K : PySem.W.Frag) (neg : Bool) : R2 := fun x y H Q => ∃ p xs, y = .ref p ∧ (SqL K H p xs ∨ SqT K H p xs) ∧ flatV x = true ∧ xs.all flatV = true ∧ Q (.bl (if neg then !inV x xs else inV x xs)) H
theorem op_notIn_seq : OpR X (compareOp .NotIn) (rIn X.K true) := by
  intro pins s σ H x y v u Q I rx ry h
  obtain ⟨p, xs, rfl, hq, fx, fs, q⟩ := h
  cases ry
  rcases hq with hq | hq
  · obtain ⟨its, r, pl, hz⟩ := I.list hq
    refine SeqAt.notIn_listAt (eqU x) pl.isList (fun w hw => mem_eqAt rx fx r fs w (by simpa using hw)) ⟨.bl _, H, I, rfl, ?_⟩
    rw [show its.toArray.any (eqU x) = its.any (eqU x) by simp, any_eqU r fs]
    exact q
  · obtain ⟨its, r, pl, hz⟩ := I.tuple hq
    refine SeqAt.notIn_tupleAt (eqU x) pl (fun w hw => mem_eqAt rx fx r fs w (by simpa using hw)) ⟨.bl _, H, I, rfl, ?_⟩
    rw [show its.toArray.any (eqU x) = its.any (eqU x) by simp, any_eqU r fs]
    exact q
theorem call_len_seq : CallR X (.builtin "len") (fun xs H Q => ∃ p ys, xs = [.ref p] ∧ (SqL X.K H p ys ∨ SqT X.K H p ys) ∧ Q (.int ys.length) H) := by
  intro pins s σ H xs us Q I r h
  obtain ⟨p, ys, rfl, hq, q⟩ := h
  obtain ⟨u, rfl, rx⟩ := vals1 r
  cases rx
  have hn := line63
  rcases hq with hq | hq
  · obtain ⟨its, r', pl, hz⟩ := I.list hq
    have hlen := r'.length
    exact Calls.call_len_list pl.isList (by simp only [List.size_toArray] <;> omega) ⟨.int ys.length, H, I.tok _, ⟨s.toks + 1, by rw [List.size_toArray, hlen]⟩, q⟩
  · obtain ⟨its, r', pl, hz⟩ := I.tuple hq
    have hlen := r'.length
    exact len_tuple pl (by simp only [List.size_toArray] <;> omega) ⟨.int ys.length, H, I.tok _, ⟨s.toks + 1, by rw [List.size_toArray, hlen]⟩, q⟩
theorem call_tuple_of : CallR X (.type "tuple") (fun xs H Q => ∃ p ys, xs = [.ref p] ∧ ((SqL X.K H p ys ∧ ∀ l, H l = none → Q (.ref l) (upd H l (.tup ys))) ∨ (SqT X.K H p ys ∧ Q (.ref p) H))) := by
  intro pins s σ H xs us Q I r h
  obtain ⟨p, ys, rfl, h⟩ := h
  obtain ⟨u, rfl, rx⟩ := vals1 r
  cases rx
  rcases h with ⟨hq, q⟩ | ⟨hq, q⟩
  · obtain ⟨its, r', pl, hz⟩ := I.list hq
    have hlen := r'.length
    refine call_tuple_list pl.isList (fun h' kp => ?_) (by simp only [List.size_toArray] <;> omega)
    have I1 : Inv X pins σ H { s with heap := h' } := I.kept (t' := s.toks) kp
    have I2 : Inv X pins σ (upd H h'.objs.size (.tup ys)) { s with heap := h'.push { cls := .type "tuple", data := .seq its.toArray } } :=
      I1.laid (t' := s.toks) (fun b o e => Heap.get?_push_of_some _ e) (Nat.le_refl _) (show ObjOk X.prog X.w _ _ _ (.tup ys) from ⟨hz, its, r', IsTup.new _ _⟩)
    exact ⟨.ref h'.objs.size, _, I2, rfl, q _ (I1.hok.fresh (Nat.le_refl _))⟩
  · obtain ⟨its, r', pl, hz⟩ := I.tuple hq
    exact call_tuple_same pl ⟨.ref p, H, I, rfl, q⟩
def tyV (K : PySem.W.Frag) (T : String) (x : V) (H : Hp) : Prop := match x with
  | .str _ => T = "str"
  | .int _ => T = "int"
  | .ref p => (T = "list" ∧ ∃ xs, SqL K H p xs) ∨ (T = "tuple" ∧ ∃ o, K.lookup p = some o ∧ o.cls = .type "tuple" ∧ o.dict = none) ∨
      (T = "dict" ∧ ((∃ kvs, H p = some (.dK kvs)) ∨ ∃ kvs, H p = some (.dT kvs))) ∨ (T = "set" ∧ ∃ S n, H p = some (.set S n))
  | _ => False
theorem tyV_is {pins : List (Addr × Obj)} {σ : St} {H : Hp} {s : Shared} {T : String} {x : V} {v : Value} (I : Inv X pins σ H s) (r : RelV x v) (ty : tyV X.K T x H) :
    s.TypeIs v T ∧ ∀ a, v = .ref a → ∃ ob, s.heap.get? a = some ob ∧ ob.dict = none := by
  cases x with
  | str z =>
    obtain ⟨t, rfl⟩ := r
    cases (show T = "str" from ty)
    exact ⟨typeIs_str s z t, fun _ e => nomatch e⟩
  | int i =>
    obtain ⟨t, rfl⟩ := r
    cases (show T = "int" from ty)
    exact ⟨typeIs_int s i t, fun _ e => nomatch e⟩
  | ref p =>
    cases r
    rcases ty with ⟨rfl, xs, hq⟩ | ⟨rfl, o, hk, hc, hd⟩ | ⟨rfl, hk⟩ | ⟨rfl, S, n, hk⟩
    · obtain ⟨its, _, pl, _⟩ := I.list hq
      refine ⟨pl.isList.typeIs, fun a e => ?_⟩
      cases e
      obtain ⟨o, n, e, c, hd, _⟩ := pl
      exact ⟨o, e, hd⟩
    · refine ⟨⟨o, I.kIn p o hk, hc⟩, fun a e => ?_⟩
      cases e
      exact ⟨o, I.kIn _ o hk, hd⟩
    · have z : ∃ o, s.heap.get? p = some o ∧ o.ExactDict := by
        rcases hk with ⟨kvs, hk⟩ | ⟨kvs, hk⟩
        · obtain ⟨_, _, _, _, o, _, _, e, ex, _⟩ := I.hok p _ hk
          exact ⟨o, e, ex⟩
        · obtain ⟨_, _, _, _, o, _, _, e, ex, _⟩ := I.hok p _ hk
          exact ⟨o, e, ex⟩
      obtain ⟨o, e, ex⟩ := z
      refine ⟨⟨o, e, ex.1⟩, fun a e2 => ?_⟩
      cases e2
      exact ⟨o, e, ex.2.1⟩
    · obtain ⟨o, _, _, _, e, ex, _⟩ := I.hok p _ hk
      refine ⟨⟨o, e, ex.1⟩, fun a e2 => ?_⟩
      cases e2
      exact ⟨o, e, ex.2.1⟩
  | _ => exact False.elim ty
def tBM (K : PySem.W.Frag) (T : String) (r : V → List V → Hp → VK → Prop) (to : TE) (t : TA) : TE := fun σ H Q => to σ H fun x H1 => tyV K T x H1 ∧ t σ H1 fun xs H2 => r x xs H2 Q
variable {o e : Expr} {es : List Expr} {to : TE} {t : TA} {name : Str} {apos cpos : Pos} {T id : String} {r : V → List V → Hp → VK → Prop}
theorem pe_bm (pa : PlainAttrs T) (slot : Slot T name id) (hty : typeOf (.builtin id) = pure (.type "method_descriptor")) (hm : MtR X id r) (ho : PE X o to) (ha : PA X (e :: es) t)
    (hbase : attributeBase o name X.env (eval o X.env) = eval o X.env := by rfl)
    (hfew : ((backTo cpos (starEach (e :: es) X.env)).all (fun x => !x.1) && (backToKw cpos (keywordEach [] X.env)).all (fun x => x.1.isSome)
      && decide ((e :: es).length + ([] : List Keyword).length + (if ([] : List Keyword).isEmpty then 0 else 1) < 30)) = true := by rfl)
    (hline : (apos.endLine == cpos.line) = true := by rfl) (hs : starEach (e :: es) X.env = (false, eval e X.env) :: starEach es X.env := by rfl) (hplain : (backTo cpos (starEach es X.env)).any (·.1) = false := by rfl) :
    PE X (.Call (.Attribute o name apos) (e :: es) [] cpos) (tBM X.K T r to t) := by
  intro pins s σ H Q I h
  refine wpAny_Call_method_late hbase hfew hline rfl (thn (ho pins s σ H _ I h) fun v s1 ⟨x, H1, I1, r1, ty, q1⟩ => ?_)
  obtain ⟨h1, h2⟩ := tyV_is I1 r1 ty
  refine ⟨T, id, pa, slot, hty, h1, h2, ?_⟩
  have hA := ha cpos pins s1 σ H1 _ I1 q1
  rw [hs] at hA ⊢
  refine Calls.callWith_builtin (by show (false || (backTo cpos (starEach es X.env)).any (·.1)) = false; rw [hplain] <;> rfl) (Calls.evalArgs_plain ?_)
  exact thn hA fun us s2 ⟨vs, H2, I2, r2, q2⟩ => hm pins s2 σ H2 x vs v us Q I2 r1 r2 q2
end
end L2
namespace L2
open PySem PySem.Spec PyProof.Rows
def MtM (X : Cx) (id : String) (r : V → List V → Hp → VK → Prop) : Prop :=
  ∀ (pins : List (Addr × Obj)) (s : Shared) (σ : St) (H : Hp) (x : V) (xs : List V) (v : Value) (us : List Value) (Q : VK), Inv X pins σ H s → RelV x v → Vals xs us → r x xs H Q →
    wpAny (model X.prog X.w) X.A (call (.builtin id) (v :: us)) (EP X pins σ Q) X.xe s
theorem Vals.one : ∀ {x : V} {us : List Value}, Vals [x] us → ∃ u, us = [u] ∧ RelV x u
  | _, _, .cons r .nil => ⟨_, rfl, r⟩
section
variable {X : Cx} {pins : List (Addr × Obj)} {σ : St} {H : Hp} {s : Shared} {l b : Addr} {xs ys zs : List V}
theorem Inv.lset {its its' : List Value} {n : Nat} {f : Array Value → Array Value} {t' : Nat} (I : Inv X pins σ H s) (hH : H l = some (.lst xs))
    (e : s.heap.get? l = some { cls := .type "list", data := .seq its.toArray n }) (hf : f its.toArray = its'.toArray) (hv : Vals ys its') (hz : ys.length ≤ sizeLine) :
    Inv X pins σ (upd H l (.lst ys)) { s with heap := s.heap.update l (Obj.mapSeq f), toks := t' } := by
  have q := PySem.IsL.update e f
  rw [hf] at q
  refine I.write (x := l) (e := l) (by rw [hH]; exact trivial) (.inl rfl) (fun b' u hb hu => (Heap.get?_update_other s.heap (Obj.mapSeq f) (Ne.symm hb)).trans hu) ⟨_, q⟩ ?_
  exact ⟨hz, its', _, hv, q⟩
theorem Inv.lnew {its : List Value} {t' : Nat} (I : Inv X pins σ H s) (hv : Vals ys its) (hz : ys.length ≤ sizeLine) :
    Inv X pins σ (upd H s.heap.objs.size (.lst ys)) { s with heap := s.heap.push { cls := .type "list", data := .seq its.toArray }, toks := t' } :=
  I.laid (fun _ _ q => Heap.get?_push_of_some _ q) (Nat.le_refl _) ⟨hz, its, 0, hv, Heap.get?_push_size _ rfl⟩
theorem Inv.fresh (I : Inv X pins σ H s) : H s.heap.objs.size = none := I.hok.fresh (Nat.le_refl _)
theorem Inv.lstM (I : Inv X pins σ H s) (hH : H l = some (.lst xs)) : xs.length ≤ sizeLine ∧ ∃ (its : List Value) (n : Nat), Vals xs its ∧ xs.length = its.length ∧ s.heap.get? l = some { cls := .type "list", data := .seq its.toArray n } := by
  obtain ⟨z, its, n, r, e⟩ := I.hok l _ hH
  exact ⟨z, its, n, r, r.length, e⟩
theorem notLongL {n : Nat} (h : n ≤ sizeLine) : Builtin.List.listTooLong n = false := by
  unfold Builtin.List.listTooLong
  exact decide_eq_false (by omega)
end
section
variable {X : Cx}
def rAppend : V → List V → Hp → VK → Prop := fun x vs H Q => ∃ l xs y, x = .ref l ∧ vs = [y] ∧ H l = some (.lst xs) ∧ xs.length < sizeLine ∧ Q .non (upd H l (.lst (xs ++ [y])))
theorem mt_append : MtM X "list.append" rAppend := by
  intro pins s σ H x vs v us Q I rx rv h
  obtain ⟨l, xs, y, rfl, rfl, hH, hz, q⟩ := h
  cases rx
  obtain ⟨u, rfl, ru⟩ := rv.one
  obtain ⟨z, its, n, r, hl, e⟩ := I.lstM hH
  refine call_meets F.slot_list_append ⟨_, e, rfl⟩ F.entry_list_append (F.args_list_append_2 _ _) (PySem.list_append l its.toArray n u (by rw [List.size_toArray]; omega)) ⟨e, ?_⟩
  refine ⟨.non, _, I.lset (its' := its ++ [u]) hH e (by simp) (r.append (.cons ru .nil)) ?_, rfl, q⟩
  rw [List.length_append, List.length_singleton]
  omega
def rExtend : V → List V → Hp → VK → Prop := fun x vs H Q => ∃ l b xs zs, x = .ref l ∧ vs = [.ref b] ∧ H l = some (.lst xs) ∧ H b = some (.lst zs) ∧ xs.length + zs.length ≤ sizeLine ∧ Q .non (upd H l (.lst (xs ++ zs)))
theorem mt_extend : MtM X "list.extend" rExtend := by
  intro pins s σ H x vs v us Q I rx rv h
  obtain ⟨l, b, xs, zs, rfl, rfl, hH, hB, hz, q⟩ := h
  cases rx
  obtain ⟨u, rfl, ru⟩ := rv.one
  cases ru
  obtain ⟨z, its, n, r, hl, e⟩ := I.lstM hH
  obtain ⟨z2, its2, n2, r2, hl2, e2⟩ := I.lstM hB
  have hsz : its.toArray.size + its2.toArray.size ≤ sizeLine := by rw [List.size_toArray, List.size_toArray]; omega
  have hlong : ¬ (!its.toArray.isEmpty && Builtin.List.listTooLong (its.toArray.size + its2.toArray.size)) = true := by
    rw [notLongL hsz, Bool.and_false]
    exact Bool.false_ne_true
  refine call_meets F.slot_list_extend ⟨_, e, rfl⟩ F.entry_list_extend (F.args_list_extend_2 _ _)
    (AutoSeq1.list_extend_list_list_0 l its.toArray n b its2.toArray n2 hlong (by rw [List.size_toArray]; omega) (by omega)) ⟨e, e2, ?_⟩
  refine ⟨.non, _, I.lset (its' := its ++ its2) hH e (by simp) (r.append r2) ?_, rfl, q⟩
  rw [List.length_append]
  omega
def rCat : R2 := fun x y H Q => ∃ l b xs zs, x = .ref l ∧ y = .ref b ∧ H l = some (.lst xs) ∧ H b = some (.lst zs) ∧ xs.length + zs.length ≤ sizeLine ∧ ∀ p, H p = none → Q (.ref p) (upd H p (.lst (xs ++ zs)))
theorem op_cat : OpR X (binaryOp .Add) rCat := by
  intro pins s σ H x y v u Q I rx ry h
  obtain ⟨l, b, xs, zs, rfl, rfl, hH, hB, hz, q⟩ := h
  cases rx
  cases ry
  obtain ⟨z, its, n, r, hl, e⟩ := I.lstM hH
  obtain ⟨z2, its2, n2, r2, hl2, e2⟩ := I.lstM hB
  refine PySem.P.add_list e e2 ?_ (by rw [List.size_toArray, List.size_toArray]; omega)
  have ea : its.toArray ++ its2.toArray = (its ++ its2).toArray := by simp
  rw [ea]
  exact ⟨.ref _, _, I.lnew (t' := s.toks) (r.append r2) (by rw [List.length_append]; omega), rfl, q _ I.fresh⟩
end
end L2
namespace Att
open PySem PySem.W PySem.Calls PyProof.Rows
theorem ints_of_wellAll {P : Params} {h : Heap} : ∀ (ns : List Int) (vs : List Value), WellAll P h vs (ns.map WData.int) → IntsAre vs ns := by
  intro ns
  induction ns with
  | nil =>
    intro vs w
    rw [List.map_nil] at w
    cases w
    exact .nil
  | cons n ns ih =>
    intro vs w
    rw [List.map_cons] at w
    cases w with
    | cons a b =>
      cases a
      exact .cons _ _ (ih _ b)
theorem script_of {l : OpenLaw} {n : Nat} (hn : l.most = some n) {P : Params} {h : Heap} {args : List WData} {vals : List Value}
    (hpre : l.row.toRowW.claim.pre args = true) (hwl : WellAll P h vals args) :
    ∃ a vs ns, vals = [Value.ref a] ∧ args = [WData.list (ns.map WData.int)] ∧ h.get? a = some { cls := .type "list", data := .seq vs.toArray } ∧ IntsAre vs ns ∧ ns.length ≤ n := by
  have hsh : WShape.hasAll [] args [.list .int] = true := (pre_splitW hpre).1
  have hc : l.pre.holds [] { args := args } = true := (pre_splitW hpre).2
  obtain ⟨d, r, rfl, h1, h2⟩ := hasAllW_cons hsh
  obtain rfl := hasAllW_nil h2
  obtain ⟨xs, rfl, h3⟩ := hasW_list h1
  obtain ⟨ns, rfl⟩ := items_int h3
  have hlen : ns.length ≤ n := by
    unfold OpenLaw.pre at hc
    have h4 : (WTm.not (.lt (.lit (.int (n : Int))) (.len (.arg 0)))).holds [] { args := [.list (ns.map .int)] } = true := by
      have h4 := (holds_andW hc).1
      rw [hn] at h4
      exact h4
    have h5 := condW_of h4 (w_not (w_lt w_lit (w_len_list (w_arg rfl))))
    rw [List.length_map] at h5
    refine Nat.le_of_not_lt fun q => ?_
    have q' : (n : Int) < ((ns.length : Nat) : Int) := by omega
    first
      | (rw [decide_eq_true q'] at h5; exact absurd h5 (by decide))
      | (simp at h5; omega)
  cases hwl with
  | cons w1 w2 =>
    cases w2
    cases w1 with
    | list ho hall => exact ⟨_, _, ns, rfl, rfl, ho, ints_of_wellAll ns _ hall, hlen⟩
theorem post_true (l : OpenLaw) (args : List WData) : l.row.toRowW.claim.post args (.bool true) args = true :=
  postW_of (r := l.row.toRowW) (X := (true == true))
    (show WShape.has [] (.bool true) .bool = true by first | rfl | decide | simp [WShape.has, WShape.arms, WShape.armsAll])
    (show (WTm.eq .res (.lit (.bool true))).value [] { args := args, res := some (.bool true), after := args } = some (.bool (true == true)) from w_eq_bool (w_res rfl) w_lit) rfl
theorem attach_call {l : OpenLaw} {n : Nat} {q : Program} {loose : List Str} {XP : (Str → Option Value) → Heap → Prop} {YP : World → Heap → Prop} {d : DefRec}
    (hn : l.most = some n) (hdf : d.params.defaults = [])
    (call : ∀ (w : World) (s₀ s₁ : Shared) (mg mb : Str → Option Value) (fa : Addr) (o : Obj) (pm cd doc : Value) (a : Addr) (vs : List Value) (ns : List Int),
      Ground q loose [] XP w s₀ mg mb s₁.heap → YP w s₁.heap →
      s₁.heap.get? fa = some o → o.data = .func (docDef d.name d.params d.body d.scope pm cd doc) → s₁.heap.CodeRec cd d.name → mg d.name = some (.ref fa) →
      s₁.heap.get? a = some { cls := .type "list", data := .seq vs.toArray } → IntsAre vs ns → ns.length ≤ n → s₁.gens = #[] →
      codeAny (model l.prog w) callerA (.call (.ref fa) ⟨[.ref a], []⟩) (fun r s' => r = .ok (.ret (.bool true)) ∧ OldK s₁.heap s'.heap ∧ s'.os = s₁.os ∧ AllBare s'.gens) s₁) :
    WalkO q loose XP YP l.row.toRowW d [] (fun f vs => PySem.call f vs) := by
  intro w s₀ s₁ mg mb G Y fa o pm cd doc dV kV ho hd hcd hD hmg hg args vals as hpre hlay hrd hwl hlo
  obtain rfl : dV = .none := Dflts.none hD hdf
  obtain rfl : kV = .none := Dflts.noKw hD
  obtain ⟨a, vs, ns, rfl, rfl, hobj, hints, hlen⟩ := script_of hn hpre hwl
  refine enter_call (codeAny_mono (call w s₀ s₁ mg mb fa o pm cd doc a vs ns G Y ho (fd_plain hd) hcd hmg hobj hints hlen hg) fun r s' hq => ?_)
  obtain ⟨rfl, h2, h3, h4⟩ := hq
  exact ⟨.inl ⟨.bool true, .bool true, [], rfl, fun _ => rfl, .bool true, post_true l _, fun _ => ⟨List.Pairwise.nil, fun _ hm => (nomatch hm)⟩⟩, h2, h3, h4⟩
end Att
namespace L2
open PySem PySem.Spec PyProof.Rows
theorem vals_ints : ∀ {vs : List Value} {ns : List Int}, IntsAre vs ns → Vals (ns.map V.int) vs
  | _, _, .nil => .nil
  | _, _, .cons n t h => .cons ⟨t, rfl⟩ (vals_ints h)
def Only (H : Hp) : Prop := ∀ b, H b = none ∨ ∃ o xs, H b = some (.frz o (.lst xs))
theorem law_call {P : Program} {w : World} {K : PySem.W.Frag} {mg mb : Str → Option Value} {CX : CXT} {k : Nat} {fa a : Addr} {fd : FuncData} {x : Str} {sp : Sp} {s₁ : Shared} {vs : List Value} {ns : List Int}
    (KX : K.In s₁.heap) (hns : s₁.heap.Ns mainGlobals mg) (hb : s₁.heap.Ns builtinsNs mb) (hbb : ∀ x : Str, x ≠ "__name__" → mb x = bootBuiltins x) (hlim : s₁.heap.NoLimit) (hg : s₁.gens = #[])
    (ha : s₁.heap.get? a = some { cls := .type "list", data := .seq vs.toArray }) (hi : IntsAre vs ns) (hl : ns.length ≤ sizeLine) (hr : Room k callerA)
    (F : ∀ base : Heap, K.In base → base.Ns mainGlobals mg → FnOk P w K mg base CX k fa fd [x] sp) (hbind : ∀ (s : Shared) (u : Value), BindsTo s fd ⟨[u], []⟩ [(x, u)])
    (hsp : ∀ H : Hp, Only H → SqL K H a (ns.map V.int) → sp [.ref a] H (fun v _ => v = .bl true) fun _ _ _ => False)
    (hCX : ∀ H e s', CX [] H s₁ (fun _ _ _ => False) e s' → False) :
    codeAny (model P w) callerA (.call (.ref fa) ⟨[.ref a], []⟩) (fun r s' => r = .ok (.ret (.bool true)) ∧ OldK s₁.heap s'.heap ∧ s'.os = s₁.os ∧ AllBare s'.gens) s₁ := by
  have rv := vals_ints hi
  have lenV := hi.length
  -- from an abstract heap in which nothing but the script may be tracked
  have core : ∀ H : Hp, Only H → SqL K H a (ns.map V.int) → HOk P w H s₁.heap → (∀ b, H b ≠ none → b = a) → (H a ≠ none → K.lookup a = none) →
      codeAny (model P w) callerA (.call (.ref fa) ⟨[.ref a], []⟩) (fun r s' => r = .ok (.ret (.bool true)) ∧ OldK s₁.heap s'.heap ∧ s'.os = s₁.os ∧ AllBare s'.gens) s₁ := by
    intro H hO hS hok hA hK
    have base_of : ∀ {b : Addr} {o : Obj}, s₁.heap.get? b = some o → H b = none → (hidT s₁.heap H).get? b = some o := fun e n => hidT_get e n
    have noA : ∀ {b : Addr} {o : Obj} {es : Array DictEntry} {ep : Nat}, s₁.heap.get? b = some o → o.data = .dict es ep → H b = none := fun {b o es ep} e d => by
      cases q : H b with
      | none => rfl
      | some u =>
        have e' : b = a := hA b (by rw [q]; simp)
        subst e'
        rw [ha] at e; cases e
        have d' : Data.seq vs.toArray _ = Data.dict es ep := d
        cases d'
    have nsK : ∀ {b : Addr} {m : Str → Option Value}, s₁.heap.Ns b m → (hidT s₁.heap H).Ns b m := fun {b m} ⟨o, es, ep, e, d, r⟩ => ⟨o, es, ep, base_of e (noA e d), d, r⟩
    have hKb : K.In (hidT s₁.heap H) := fun b o e => base_of (KX b o e) (by
      cases q : H b with
      | none => rfl
      | some u =>
        have e' : b = a := hA b (by rw [q]; simp)
        subst e'
        rw [hK (by rw [q]; simp)] at e; cases e)
    have hM : Mod K mg (hidT s₁.heap H) := ⟨hKb, nsK hns, ⟨mb, nsK hb, hbb⟩, let ⟨mc, h1, h2⟩ := hlim; ⟨mc, nsK h1, h2⟩⟩
    have e0 : Env0 P w K mg (hidT s₁.heap H) callerA [] s₁ H := ⟨rfl, hM, fun b o e => of_hidT e, Nat.le_of_eq (hidT_size _ _), trivial, fun b hb => absurd (show b ∈ ([] : List Addr) from hb) (by simp), hok, .of_eq hg⟩
    refine codeAny_mono ((F _ hKb (nsK hns)).run callerA [] s₁ H ⟨[.ref a], []⟩ [.ref a] [.ref a] _ _ hr e0 (hbind s₁ (.ref a)) (.cons rfl .nil) (hsp H hO hS)) fun r s' h => ?_
    cases r with
    | error e => exact (hCX H e s' h).elim
    | ok fl =>
      cases fl with
      | next => exact False.elim h
      | brk => exact False.elim h
      | cont => exact False.elim h
      | ret u =>
        obtain ⟨v, H', os, bare, un, hok', r', q⟩ := h
        have q' : v = .bl true := q
        subst q'
        obtain rfl : u = Value.bool true := r'
        refine ⟨rfl, OldK.of_keep fun b o e => ?_, os, bare⟩
        cases q : H b with
        | none => exact un.keep b o e q (by intro z; exact absurd (show b ∈ ([] : List Addr) from z) (by simp)) (by simp)
        | some u =>
          rcases hO b with z | ⟨ob, xs, z⟩
          · rw [q] at z; cases z
          · have z2 := un.frzs b ob _ z
            obtain ⟨e1, _⟩ := hok b _ z
            obtain ⟨e2, _⟩ := hok' b _ z2
            rw [e] at e1; cases e1
            exact e2
  cases hk : K.lookup a with
  | some o =>
    -- the script is one of the module's own objects
    have e := KX a o hk
    rw [ha] at e
    cases e
    refine core (fun _ => none) (fun _ => .inl rfl) (.inr ⟨_, vs.toArray, _, hk, rfl, rfl, rfl, by rw [List.size_toArray, lenV]; exact hl, by simpa using rv⟩) (fun b u z => by have z' : (none : Option HO) = some u := z; cases z') (fun b z => absurd rfl z) fun z => absurd rfl z
  | none =>
    refine core (fun b => if b = a then some (.frz { cls := .type "list", data := .seq vs.toArray } (.lst (ns.map V.int))) else none) (fun b => ?_) (.inl (.inr ⟨{ cls := .type "list", data := .seq vs.toArray }, if_pos rfl⟩)) (fun b u z => ?_) (fun b z => ?_) fun _ => hk
    · by_cases hb : b = a
      · exact .inr ⟨_, _, if_pos hb⟩
      · exact .inl (if_neg hb)
    · by_cases hb : b = a
      · have z' := (if_pos hb).symm.trans z
        cases z'
        subst hb
        exact ⟨ha, by rw [List.length_map]; exact hl, vs, _, rv, ha⟩
      · have z' := (if_neg hb).symm.trans z
        cases z'
    · by_cases hb : b = a
      · exact hb
      · exact absurd (if_neg hb) z
end L2
namespace L2
open PySem PySem.Spec PyProof.Rows
theorem walk_of {l : PySem.W.OpenLaw} {n k : Nat} {q : Program} {loose : List Str} {XP : (Str → Option Value) → Heap → Prop} {YP : World → Heap → Prop} {d : DefRec} {K : Params → PySem.W.Frag} {CX : World → CXT} {sp : World → Sp} {x : Str}
    (hn : l.most = some n) (hn2 : n ≤ sizeLine) (hdf : d.params.defaults = []) (hr : Room k callerA)
    (hY : ∀ (w : World) (h : Heap), YP w h → (K w.params).In h)
    (F : ∀ (w : World) (mg : Str → Option Value) (fa : Addr) (h : Heap), (K w.params).In h → h.Ns mainGlobals mg → mg d.name = some (.ref fa) →
      ∃ fd : FuncData, (∀ (s : Shared) (u : Value), BindsTo s fd ⟨[u], []⟩ [(x, u)]) ∧
        ∀ base : Heap, (K w.params).In base → base.Ns mainGlobals mg → FnOk l.prog w (K w.params) mg base (CX w) k fa fd [x] (sp w))
    (hsp : ∀ (w : World) (H : Hp) (a : Addr) (ns : List Int), ns.length ≤ n → Only H → SqL (K w.params) H a (ns.map V.int) → sp w [.ref a] H (fun v _ => v = .bl true) fun _ _ _ => False)
    (hCX : ∀ (w : World) (H : Hp) (s : Shared) (e : Value) (s' : Shared), CX w [] H s (fun _ _ _ => False) e s' → False) :
    PySem.W.WalkO q loose XP YP l.row.toRowW d [] (fun f vs => PySem.call f vs) := by
  refine Att.attach_call hn hdf fun w s₀ s₁ mg mb fa o pm cd doc a vs ns G Y ho hd hcd hmg hobj hints hlen hg => ?_
  have KX := hY w _ Y
  obtain ⟨fd, hb, hF⟩ := F w mg fa _ KX G.T.g hmg
  exact law_call KX G.T.g G.T.b G.T.builtins G.T.nolimit hg hobj hints (Nat.le_trans hlen hn2) hr hF hb (fun H hO hS => hsp w H a ns hlen hO hS) fun H e s' => hCX w H s₁ e s'
theorem walk_ofK {l : PySem.W.OpenLaw} {n k : Nat} {q : Program} {loose : List Str} {XP : (Str → Option Value) → Heap → Prop} {YP : World → Heap → Prop} {d : DefRec} {K : Params → PySem.W.Frag} {CX : CXT} {sp : PySem.W.Frag → Sp} {x : Str}
    (hn : l.most = some n) (hn2 : n ≤ sizeLine) (hdf : d.params.defaults = []) (hr : Room k callerA)
    (hY : ∀ (w : World) (h : Heap), YP w h → (K w.params).In h)
    (F : ∀ (w : World) (mg : Str → Option Value) (fa : Addr) (h : Heap), (K w.params).In h → h.Ns mainGlobals mg → mg d.name = some (.ref fa) →
      ∃ fd : FuncData, (∀ (s : Shared) (u : Value), BindsTo s fd ⟨[u], []⟩ [(x, u)]) ∧
        ∀ base : Heap, (K w.params).In base → base.Ns mainGlobals mg → FnOk l.prog w (K w.params) mg base CX k fa fd [x] (sp (K w.params)))
    (hsp : ∀ (K : PySem.W.Frag) (H : Hp) (a : Addr) (ns : List Int), ns.length ≤ n → Only H → SqL K H a (ns.map V.int) → sp K [.ref a] H (fun v _ => v = .bl true) fun _ _ _ => False)
    (hCX : ∀ (H : Hp) (s : Shared) (e : Value) (s' : Shared), CX [] H s (fun _ _ _ => False) e s' → False) :
    PySem.W.WalkO q loose XP YP l.row.toRowW d [] (fun f vs => PySem.call f vs) :=
  walk_of (K := K) (CX := fun _ => CX) (sp := fun w => sp (K w.params)) hn hn2 hdf hr hY F (fun w H a ns h1 h2 h3 => hsp (K w.params) H a ns h1 h2 h3) fun _ H s e s' => hCX H s e s'
end L2
namespace L2
open PySem PySem.Spec PyProof.Rows
def defArgs (s : Stmt) : Arguments := match s with
  | .FunctionDef _ a _ _ _ _ _ _ _ _ => a
  | _ => { posonlyargs := [], args := [], vararg := none, kwonlyargs := [], kw_defaults := [], kwarg := none, defaults := [] }
def defBody (s : Stmt) : List Stmt := match s with
  | .FunctionDef _ _ b _ _ _ _ _ _ _ => b
  | _ => []
def defScope (s : Stmt) : Scope := match s with
  | .FunctionDef _ _ _ _ _ _ sc _ _ _ => sc
  | _ => { kind := .function, names := [], isGenerator := false, isCoroutine := false }
abbrev CX0 : CXT := fun _ _ _ _ _ _ => False
abbrev E0 : XK := fun _ _ _ => False
theorem pass0 {X : Cx} : Passes CX0 X E0 := fun _ _ _ _ _ _ _ h => h.elim
structure Fun (K : PySem.W.Frag) (x qual : Str) (st : Stmt) (f : Addr) (fd : FuncData) : Prop where
  ex : ∃ (oc : Value) (od : Option Addr) (kV doc pm : Value) (an : Option Addr) (cdv ct : Value) (osl : Array (Option Value)),
    fd = PySem.W.fnOf x qual (defArgs st) (defBody st) (defScope st) .none kV doc pm an cdv ct ∧ K.lookup f = some ⟨oc, od, .func fd, osl⟩ ∧ PySem.W.codeIn K cdv qual = true
  kp : PySem.W.keepIn K (.ref f) = true
section
variable {P : Program} {w : World} {K : PySem.W.Frag} {mg : Str → Option Value} {base : Heap}
theorem Fun.ok {x qual : Str} {st : Stmt} {f : Addr} {fd : FuncData} {N ps : List Str} {k : Nat} {sp : Sp} (F : Fun K x qual st f fd) (S : FnScope N ps (defScope st)) (len : ∀ vs H Q E, sp vs H Q E → vs.length = ps.length)
    (hbody : ∀ (cdv : Value) (A : Around) (outer : List Env) (s : Shared) (H : Hp) (vs : List V) (Q : VK) (E : XK), Room k (A.deeper (envOfC qual (defScope st) s.heap.objs.size f cdv)) → sp vs H Q E →
      ∃ t, PSs (cxOf CX0 P w K mg base N qual (defScope st) f cdv A outer s H E).nox (defBody st) t ∧ t { nx := fun _ H' => Q .non H', rt := Q } (start N vs) H) : FnOk P w K mg base CX0 (k + 1) f fd ps sp := by
  obtain ⟨oc, od, kV, doc, pm, an, cdv, ct, osl, rfl, lk, hcd⟩ := F.ex
  refine fn_of lk hcd S len fun A outer s H vs Q E hr hsp => ?_
  obtain ⟨t, h, q⟩ := hbody cdv A outer s H vs Q E hr hsp
  exact ⟨t, h.nox, q⟩
theorem Fun.binds {x qual : Str} {st : Stmt} {f : Addr} {fd : FuncData} {ps : List Str} (F : Fun K x qual st f fd)
    (h : ∀ (kV doc pm : Value) (an : Option Addr) (cdv ct : Value) (us : List Value), us.length = ps.length → bindArgs (PySem.W.fnOf x qual (defArgs st) (defBody st) (defScope st) .none kV doc pm an cdv ct) ⟨us, []⟩ = pure (ps.zip us)) : Binds K fd ps [] := by
  obtain ⟨oc, od, kV, doc, pm, an, cdv, ct, osl, rfl, lk, hcd⟩ := F.ex
  exact .all (h kV doc pm an cdv ct)
theorem fun_mk {x qual : Str} {st : Stmt} {f : Addr} {oc : Value} {od an : Option Addr} {osl : Array (Option Value)} {kV doc pm cdv ct : Value} (l : K.lookup f = some ⟨oc, od, .func (PySem.W.fnOf x qual (defArgs st) (defBody st) (defScope st) .none kV doc pm an cdv ct), osl⟩)
    (c : PySem.W.codeIn K cdv qual = true) (k : PySem.W.keepIn K (.ref f) = true) : Fun K x qual st f (PySem.W.fnOf x qual (defArgs st) (defBody st) (defScope st) .none kV doc pm an cdv ct) := ⟨⟨oc, od, kV, doc, pm, an, cdv, ct, osl, rfl, l, c⟩, k⟩
end
section
variable {X : Cx}
theorem pv (i : Nat) {x : Str} {pos : Pos} (hN : X.N[i]? = some x := by rfl) (hv : Vis X.env.scope x := by first | exact Or.inl rfl | exact Or.inr (Or.inl rfl) | exact Or.inr (Or.inr rfl)) (hd : (x == ("__debug__" : Str)) = false := by decide)
    (hcd : (x == ("__classdict__" : Str)) = false := by decide) : PE X (.Name x pos) (tVar i) := pe_var hN hv hd hcd
end
theorem iteF {A B : Prop} (h : B) : if false = true then A else B := by
  rw [if_neg Bool.false_ne_true]
  exact h
theorem iteT {A B : Prop} (h : A) : if true = true then A else B := by
  rw [if_pos rfl]
  exact h
theorem ite2 {c A B : Prop} [Decidable c] (h1 : c → A) (h2 : ¬ c → B) : if c then A else B := by
  by_cases h : c
  · rw [if_pos h]
    exact h1 h
  · rw [if_neg h]
    exact h2 h
def Same (H H' : Hp) : Prop := ∀ b o, H b = some o → H' b = some o
theorem Same.refl (H : Hp) : Same H H := fun _ _ h => h
theorem Same.trans {H H1 H2 : Hp} (a : Same H H1) (b : Same H1 H2) : Same H H2 := fun c o h => b c o (a c o h)
theorem Same.seq {K : PySem.W.Frag} {H H' : Hp} {a : Addr} {xs : List V} (e : Same H H') (h : SqL K H a xs) : SqL K H' a xs := by
  rcases h with (h | ⟨o, h⟩) | h
  · exact .inl (.inl (e _ _ h))
  · exact .inl (.inr ⟨o, e _ _ h⟩)
  · exact .inr h
end L2
set_option Elab.async false
set_option linter.all false
set_option maxRecDepth 100000
namespace L2
open PySem PySem.Spec PyProof.Rows
theorem ObjOk.some_ {P : Program} {w : World} {H : Hp} {h : Heap} {a : Addr} {o : HO} (x : ObjOk P w H h a o) : ∃ ob, h.get? a = some ob := by
  cases o with
  | lst xs => obtain ⟨_, _, _, _, e⟩ := x; exact ⟨_, e⟩
  | tup xs => obtain ⟨_, _, _, ob, e, _⟩ := x; exact ⟨_, e⟩
  | dK kvs => obtain ⟨_, _, _, _, o, _, _, e, _⟩ := x; exact ⟨_, e⟩
  | dT kvs => obtain ⟨_, _, _, _, o, _, _, e, _⟩ := x; exact ⟨_, e⟩
  | set S n => obtain ⟨o, _, _, _, e, _⟩ := x; exact ⟨_, e⟩
  | ins C dx fs => obtain ⟨_, _, _, e, _⟩ := x; exact ⟨_, e⟩
  | own y => obtain ⟨_, e⟩ := x; exact ⟨_, e⟩
  | xd fs => obtain ⟨_, ⟨_, _, _, e, _⟩, _⟩ := x; exact ⟨_, e⟩
  | rng lo hi => obtain ⟨_, _, _, e⟩ := x; exact ⟨_, e⟩
  | frz ob u => obtain ⟨e, _⟩ := x; exact ⟨_, e⟩
  | tbl ps => exact ⟨_, (show h.get? a = some _ from x)⟩
  | met f y => exact ⟨_, (show h.get? a = some _ from x)⟩
  | ext φ => obtain ⟨_, ⟨_, e⟩, _⟩ := x; exact ⟨_, e⟩
theorem Inv.there {X : Cx} {pins : List (Addr × Obj)} {σ : St} {H : Hp} {s : Shared} (I : Inv X pins σ H s) {a : Addr} {o : HO} (e : H a = some o) : ∃ ob, s.heap.get? a = some ob := (I.hok a o e).some_
theorem Inv.none_of {X : Cx} {pins : List (Addr × Obj)} {σ : St} {H : Hp} {s : Shared} (I : Inv X pins σ H s) {a : Addr} (e : s.heap.get? a = none) : H a = none := by
  cases q : H a with
  | none => rfl
  | some o =>
    obtain ⟨ob, z⟩ := I.there q
    rw [e] at z
    cases z
structure Fly (h0 h : Heap) (H : Hp) (C ea T : Addr) : Prop where
  ob : ∃ (oe : Obj) (vs : Array Value) (a0 : Value) (oT : Obj) (ts : Array Value), h.get? ea = some oe ∧ oe.cls = .ref C ∧ oe.data = .fields vs ∧ vs[0]? = some a0 ∧ vs[1]? = some (.ref T) ∧ h.get? T = some oT ∧ oT.data = .fields ts ∧ ts[3]? = some .none
  ne : T ≠ ea
  fe : H ea = none
  fT : H T = none
  ne0 : h0.get? ea = none
  nT0 : h0.get? T = none
def CXE (P : Program) (w : World) : CXT := fun outer H s E e s' => ∃ (ea T C : Addr) (H' : Hp), e = .ref ea ∧ s'.os = s.os ∧ AllBare s'.gens ∧ Un (frs outer) [] H H' s.heap s'.heap ∧ HOk P w H' s'.heap ∧ Fly s.heap s'.heap H' C ea T ∧ E (.ref C) none H'
theorem passE0 {P : Program} {w : World} {X : Cx} : Passes (CXE P w) X E0 := fun _ _ _ _ _ _ _ ⟨_, _, _, _, _, _, _, _, _, _, z⟩ => z.elim
structure Exc (K : PySem.W.Frag) (mg : Str → Option Value) (x : Str) (C : Addr) : Prop where
  bound : mg x = some (.ref C)
  ex : PySem.W.excIn K C [.type "ValueError", .type "Exception", .type "BaseException", .type "object"] "ValueError.__new__" = true
theorem exc_obj {K : PySem.W.Frag} {h : Heap} {C : Addr} {bmB : List Value} {newId : String} (X : K.In h) (q : PySem.W.excIn K C bmB newId = true) :
    ∃ bm N nm qn bs hdct sn sub ab col dd k0 k1 k2 k3 k5 mN, h.get? C = some (excClassObj nm qn C N bs bm hdct sn sub ab col dd k0 k1 k2 k3 k5 newId) ∧ h.Ns N mN ∧ mN "__init__" = none ∧ OwnTail h bmB bm := by
  unfold PySem.W.excIn at q
  split at q
  case h_2 => cases q
  case h_1 dd cd sl ho =>
    split at q
    case h_2 => cases q
    case h_1 C' bm k0 k1 k2 k3 n k5 hm hs =>
      simp only [Bool.and_eq_true, beq_iff_eq, Bool.not_eq_true'] at q
      obtain ⟨⟨⟨⟨⟨e1, e2⟩, e3⟩, e4⟩, e5⟩, e6⟩ := q
      subst e1 e2
      cases cd with
      | mk nm bs mro ns qn hd sn sub ab col del =>
        have hsl : sl = #[k0, k1, k2, k3, some (.builtin n), k5] := by rw [← Array.toList_inj]; exact hs
        simp only at hm e3 e5 e6
        subst hm e3 hsl
        exact ⟨bm, ns, nm, qn, bs, hd, sn, sub, ab, col, dd, k0, k1, k2, k3, k5, _, X _ _ ho, .of_isNs (PySem.W.isNs_of_in X e5), PySem.W.nsMap_none_of_in X e5 e6, PySem.W.tail_of_in X e4⟩
def tRaise (C : Addr) (t : TA) (E : XK) : TS := fun _ σ H => t σ H fun xs H1 => xs.length ≤ sizeLine ∧ E (.ref C) none H1
theorem Inv.hid {X : Cx} {pins : List (Addr × Obj)} {σ : St} {H : Hp} {s : Shared} (I : Inv X pins σ H s) (as : List Addr) (hs : ∀ b ∈ frs X.stack, b ∈ as) : s.heap.FunFrames (PySem.W.hideAll s.heap as) X.stack :=
  PySem.W.funFrames_hide I.stack fun env he a hf => hs a (List.mem_filterMap.mpr ⟨env, he, hf⟩)
section
variable {P : Program} {w : World} {K : PySem.W.Frag} {mg : Str → Option Value} {base : Heap} {N : List Str} {qual : Str} {scope : Scope} {f : Addr} {cd : Value} {A : Around} {outer : List Env} {s₀ : Shared} {H₀ : Hp} {E : XK}
theorem leaves_made {pins : List (Addr × Obj)} {σ : St} {H : Hp} {s : Shared} {C e : Addr} {vs : List Value} {h' : Heap} (I : Inv (cxOf (CXE P w) P w K mg base N qual scope f cd A outer s₀ H₀ E) pins σ H s)
    (hx : Heap.MadeExcOf s.heap h' e (.ref C) vs) (q : E (.ref C) none H) : (cxOf (CXE P w) P w K mg base N qual scope f cd A outer s₀ H₀ E).xe (.ref e) { s with heap := h' } := by
  have hin : ∀ b ∈ frs (envOfC qual scope s₀.heap.objs.size f cd :: outer), b ∈ frs (envOfC qual scope s₀.heap.objs.size f cd :: outer) := fun _ z => z
  have ff := I.hid _ hin
  show wpAny _ _ (leaving _ _) _ _ _
  refine wpAny_leaves_madeW (base := PySem.W.hideAll s.heap (frs (envOfC qual scope s₀.heap.objs.size f cd :: outer))) (h := s.heap) I.ok.frames rfl (fun b o z => PySem.W.of_hideAll _ z) ff hx fun h2 t fl tt tn up => ?_
  have inB : ∀ b o, b ∉ frs (envOfC qual scope s₀.heap.objs.size f cd :: outer) → s.heap.get? b = some o → h2.get? b = some o := fun b o nb z => fl.1 b o (PySem.W.hideAll_get _ z nb)
  have upS : ∀ b o, b ∈ frs (envOfC qual scope s₀.heap.objs.size f cd :: outer) → s.heap.get? b = some o → ∃ sl, h2.get? b = some { o with slots := sl } := fun b o nb z => by
    obtain ⟨_, o', z', hd⟩ := I.stack.mem nb
    rw [z] at z'
    cases z'
    exact up b o (hx.keeps b o z) hd
  have notL : ∀ b o, s₀.heap.get? b = some o → b ∉ frs outer → b ∉ frs (envOfC qual scope s₀.heap.objs.size f cd :: outer) := fun b o z nb m => by
    rcases List.mem_cons.mp (I.stkSub b m) with z' | z'
    · have := Heap.lt_size z
      have z' : b = s₀.heap.objs.size := z'
      rw [z'] at this
      exact Nat.lt_irrefl _ this
    · exact nb z'
  have thr : ∀ b o, s.heap.get? b = some o → ∃ o', h2.get? b = some o' := fun b o z => by
    by_cases hb : b ∈ frs (envOfC qual scope s₀.heap.objs.size f cd :: outer)
    · obtain ⟨sl, z'⟩ := upS b o hb z
      exact ⟨_, z'⟩
    · exact ⟨o, inB b o hb z⟩
  obtain ⟨_, _, _, oe, vs', T, oT, ts, a1, ⟨a2, a3⟩, a4, a5, a6, a7, a8, a9, a10⟩ := fl
  have noT : s.heap.get? T = none := by
    cases z : s.heap.get? T with
    | none => rfl
    | some o =>
      by_cases hb : T ∈ frs (envOfC qual scope s₀.heap.objs.size f cd :: outer)
      · obtain ⟨_, o', z', hd⟩ := I.stack.mem hb
        obtain ⟨sl, z2⟩ := upS T o hb z
        rw [z] at z'
        cases z'
        rw [a8] at z2
        cases z2
        exact absurd a9 (hd ts)
      · rw [PySem.W.hideAll_get _ z hb] at a6
        cases a6
  have no0 : ∀ b, s.heap.get? b = none → s₀.heap.get? b = none := fun b z => by
    cases y : s₀.heap.get? b with
    | none => rfl
    | some o =>
      obtain ⟨o', z'⟩ := I.base.there b o y (fun m => nomatch m)
      rw [z] at z'
      cases z'
  refine ⟨e, T, C, H, rfl, I.os, I.bare, ⟨fun b o z n nb _ => ?_, fun b o z n nb _ => ?_, fun b o z n _ => I.base.free b o z n (fun m => nomatch m), fun b o z _ => ?_, I.base.tups, I.base.frzs, I.base.tbls⟩, fun a o z => ?_,
    ⟨⟨oe, vs', .ref t, oT, ts, a1, a2, a4, a3, a5, a8, a9, a10⟩, a7, I.none_of hx.new, I.none_of noT, no0 _ hx.new, no0 _ noT⟩, q⟩
  · exact inB b o (notL b o z nb) (I.base.keep b o z n nb (fun m => nomatch m))
  · obtain ⟨sl, z1⟩ := I.base.slot b o z n nb (fun m => nomatch m)
    obtain ⟨sl', z2⟩ := upS b _ (by
      show b ∈ frs _
      unfold frs
      rw [List.filterMap_cons]
      exact List.mem_cons_of_mem _ nb) z1
    exact ⟨sl', z2⟩
  · obtain ⟨o', z'⟩ := I.base.there b o z (fun m => nomatch m)
    exact thr b o' z'
  · refine (I.hok a o z).stay (fun b u hb r => ?_) (fun _ y => y) fun _ _ y => y
    refine inB b u (fun m => ?_) r
    have := I.stkFree b m
    rcases hb with rfl | hb
    · rw [z] at this; cases this
    · rw [hb] at this; cases this
theorem ps_raise {x : Str} {C : Addr} {e : Expr} {es : List Expr} {t : TA} {np cpos pos : Pos} (ex : Exc K mg x C) (hh : A.handled = none) (hg : Gl (cxOf (CXE P w) P w K mg base N qual scope f cd A outer s₀ H₀ E) x)
    (ha : PA (cxOf (CXE P w) P w K mg base N qual scope f cd A outer s₀ H₀ E) (e :: es) t)
    (hs : starEach (e :: es) (envOfC qual scope s₀.heap.objs.size f cd) = (false, eval e (envOfC qual scope s₀.heap.objs.size f cd)) :: starEach es (envOfC qual scope s₀.heap.objs.size f cd) := by rfl)
    (hpl : (backTo cpos (starEach es (envOfC qual scope s₀.heap.objs.size f cd))).any (·.1) = false := by rfl) (hd : (x == ("__debug__" : Str)) = false := by decide) :
    PS (cxOf (CXE P w) P w K mg base N qual scope f cd A outer s₀ H₀ E) (.Raise (some (.Call (.Name x np) (e :: es) [] cpos)) none pos) (tRaise C t E) := by
  intro pins s σ H D I h
  obtain ⟨bm, N', nm, qn, bs, hdct, sn, sub, ab, col, dd, k0, k1, k2, k3, k5, mN, hC, hN, hni, TL⟩ := exc_obj (h := base) I.mod.kin ex.ex
  refine wpAny_Raise_call_subT (C := C) (nm := nm) (q := qn) (N := N') (bs := bs) (bm := bm) (hdct := hdct) (sn := sn) (sub := sub) (ab := ab) (col := col) (dd := dd) (k0 := k0) (k1 := k1) (k2 := k2) (k3 := k3) (k5 := k5)
    PySem.F.excBase_ValueError (mN := mN) (TL.hasType PySem.F.excBase_ValueError.hasBase) hh (by
      show (backTo cpos (starEach (e :: es) (envOfC qual scope s₀.heap.objs.size f cd))).any (·.1) = false
      rw [hs]
      show (false || (backTo cpos (starEach es (envOfC qual scope s₀.heap.objs.size f cd))).any (·.1)) = false
      rw [hpl]
      rfl) hni (ld_glob I hg ex.bound ⟨rfl, ?_⟩ hd)
  have h1 := ha cpos pins s σ H _ I h
  show wpAny _ _ (evalArgs (.ref C) true (backTo cpos (starEach (e :: es) (envOfC qual scope s₀.heap.objs.size f cd))) []) _ _ _
  have h1 : wpAny _ _ (spliced (backTo cpos (starEach (e :: es) (envOfC qual scope s₀.heap.objs.size f cd)))) _ _ s := h1
  rw [hs] at h1 ⊢
  refine Calls.evalArgs_plain (wpAny_mono h1 (fun us s2 ⟨xs, H2, I2, r, z, q⟩ => ⟨rfl, ?_, I2.bk _ _ hC, hN.keeps I2.bk, TL.keeps I2.bk, fun h' e' hx => ?_⟩) fun _ _ y => y)
  · rw [← r.length]; exact z
  · exact leaves_made I2 hx q
end
theorem Fun.okE {P : Program} {w : World} {K : PySem.W.Frag} {mg : Str → Option Value} {base : Heap} {x qual : Str} {st : Stmt} {f : Addr} {fd : FuncData} {N ps : List Str} {k : Nat} {sp : Sp} (F : Fun K x qual st f fd) (S : FnScope N ps (defScope st)) (len : ∀ vs H Q E, sp vs H Q E → vs.length = ps.length)
    (hbody : ∀ (cdv : Value) (A : Around) (outer : List Env) (s : Shared) (H : Hp) (vs : List V) (Q : VK) (E : XK), Room k (A.deeper (envOfC qual (defScope st) s.heap.objs.size f cdv)) → A.handled = none → sp vs H Q E →
      ∃ t, PSs (cxOf (CXE P w) P w K mg base N qual (defScope st) f cdv A outer s H E) (defBody st) t ∧ t { nx := fun _ H' => Q .non H', rt := Q } (start N vs) H) : FnOk P w K mg base (CXE P w) (k + 1) f fd ps sp := by
  obtain ⟨oc, od, kV, doc, pm, an, cdv, ct, osl, rfl, lk, hcd⟩ := F.ex
  exact fn_of lk hcd S len fun A outer s H vs Q E hr hsp => hbody cdv A outer s H vs Q E hr hr.hd hsp
end L2
set_option Elab.async false
set_option linter.all false
set_option maxRecDepth 100000
namespace L2
open PySem PySem.Spec PyProof.Rows
theorem Inv.track {X : Cx} {pins : List (Addr × Obj)} {σ : St} {H : Hp} {s : Shared} {p : Addr} {o : HO} (I : Inv X pins σ H s) (hn : H p = none) (h0 : X.s₀.heap.get? p = none) (hl : p ≠ X.env.locals)
    (hc : ∀ x c, X.env.cells.lookup x = some c → c ≠ p) (hp : ∀ q ∈ X.pn ++ pins, q.1 ≠ p) (new : ObjOk X.prog X.w (upd H p o) s.heap p o) : Inv X pins σ (upd H p o) s where
  ok := I.ok
  os := I.os
  bare := I.bare
  base := ⟨I.base.keep, I.base.slot, fun b ob e n hx => by
      rw [upd_ne (fun z => by rw [z, h0] at e; cases e)]
      exact I.base.free b ob e n hx, I.base.there,
    fun b xs e => by rw [upd_ne (ne_of_none (I.base.tups b xs e) hn)]; exact I.base.tups b xs e,
    fun b ob u e => by rw [upd_ne (ne_of_none (I.base.frzs b ob u e) hn)]; exact I.base.frzs b ob u e,
    fun b ps e => by
      obtain ⟨m, z⟩ := I.base.tbls b ps e
      exact ⟨m, by rw [upd_ne (ne_of_none z hn)]; exact z⟩⟩
  loc := I.loc
  cell := I.cell
  free := by rw [upd_ne hl.symm]; exact I.free
  freeC := fun x c e => by rw [upd_ne (hc x c e)]; exact I.freeC x c e
  pin := fun q m => by
    obtain ⟨a, b, c⟩ := I.pin q m
    exact ⟨a, by rw [upd_ne (hp q m)]; exact b, c⟩
  hok := fun b u e => by
    by_cases hb : b = p
    · subst hb
      rw [upd_same] at e
      cases e
      exact new
    · rw [upd_ne hb] at e
      exact (I.hok b u e).stay (fun _ _ _ q => q) (fun c q => by rw [upd_ne (ne_of_none q hn)]; exact q) fun c xs q => by rw [upd_ne (ne_of_none q hn)]; exact q
  len := I.len
theorem Inv.turned2 {X : Cx} {pins : List (Addr × Obj)} {σ : St} {H : Hp} {s : Shared} {h' : Heap} {t' : Nat} {i j : Addr} (I : Inv X pins σ H s) (k : ∀ b o, b ≠ i → b ≠ j → s.heap.get? b = some o → h'.get? b = some o) (fi : FpOk X pins H i) (fj : FpOk X pins H j) :
    Inv X pins σ H { s with heap := h', toks := t' } := by
  obtain ⟨a0, a1, a2, a3, a4, a5⟩ := fi
  obtain ⟨b0, b1, b2, b3, b4, b5⟩ := fj
  have nit : ∀ b u, H b = some u → b ≠ i ∧ b ≠ j := fun b u e => ⟨(fun z => by rw [z, a0] at e; cases e), (fun z => by rw [z, b0] at e; cases e)⟩
  have kk : ∀ b o, b ∉ [i, j] → s.heap.get? b = some o → h'.get? b = some o := fun b o m e => k b o (fun z => m (by simp [z])) (fun z => m (by simp [z])) e
  refine I.step (g' := s.gens) (d' := s.drawn) (ch := [i, j]) (fun b hb => ?_) (fun b o _ _ m e _ => kk b o m e) (fun b o _ _ m e _ => ⟨o.slots, kk b o m e⟩) (fun _ _ _ _ n => n) (fun b o m e => ⟨o, kk b o m e⟩) (fun _ _ e => e) (fun _ _ _ e => e)
    (fun b ps e => ⟨#[], by rw [e]; simp⟩) (fun m hm => ?_) (fun b u e => ?_) I.bare
  · rcases List.mem_cons.mp hb with rfl | hb
    · exact ⟨a3, a1, a4, a5⟩
    · obtain rfl := List.mem_singleton.mp hb
      exact ⟨b3, b1, b4, b5⟩
  · obtain ⟨o, es, ep, ho, r⟩ := hm
    exact ⟨o, es, ep, k _ o a1.symm b1.symm ho, r⟩
  · refine (I.hok b u e).stay (fun c v hc q => k c v ?_ ?_ q) (fun _ q => q) fun _ _ q => q
    · rcases hc with z | z
      · rw [z]; exact (nit b u e).1
      · exact (nit c _ z).1
    · rcases hc with z | z
      · rw [z]; exact (nit b u e).2
      · exact (nit c _ z).2
end L2
set_option Elab.async false
set_option linter.all false
set_option maxRecDepth 100000
namespace L2
open PySem PySem.Spec PyProof.Rows
theorem getD_at {α : Type} {xs : List α} {i : Nat} {d : α} (h : i < xs.length) : xs.getD i d = xs[i] := by
  rw [List.getD_eq_getElem?_getD, List.getElem?_eq_getElem h]
  rfl
section
variable {X : Cx}
theorem nums_of {ns : List Int} {its : List Value} (r : Vals (ns.map V.int) its) : ∀ (i : Nat) (v : Value), its.toArray[i]? = some v → ∃ t, v = Value.int (ns.getD i 0) t := by
  intro i v e
  rw [List.getElem?_toArray] at e
  have hl := r.length
  have hi : i < its.length := (List.getElem?_eq_some_iff.mp e).1
  rw [List.length_map] at hl
  have hx : (ns.map V.int)[i]? = some (.int (ns.getD i 0)) := by
    rw [List.getElem?_map, List.getElem?_eq_getElem (by omega)]
    simp [List.getD, show i < ns.length by omega]
  obtain ⟨u, hu, ru⟩ := r.get hx
  rw [e] at hu
  cases hu
  exact ru
theorem best_mem {ns : List Int} {k : Nat} (h : k < ns.length) : ns.getD k 0 ∈ ns := by
  rw [getD_at h]
  exact List.getElem_mem h
theorem mem_at {ns : List Int} {z : Int} (h : z ∈ ns) : ∃ j, j < ns.length ∧ ns.getD j 0 = z := by
  obtain ⟨j, hj, e⟩ := List.mem_iff_getElem.mp h
  exact ⟨j, hj, by rw [getD_at hj]; exact e⟩
theorem val_at {xs : List V} {us : List Value} (r : Vals xs us) {j : Nat} (h1 : j < us.length) : RelV (xs.getD j .non) us[j] := by
  have hl := r.length
  obtain ⟨u, hu, ru⟩ := r.get (i := j) (x := xs.getD j .non) (by rw [List.getElem?_eq_getElem (by omega), getD_at (by omega)])
  rw [List.getElem?_eq_getElem h1] at hu
  cases hu
  exact ru
end
end L2
set_option linter.all false
namespace Srt
open PySem.W PyProof.Rows
def Run (key : Nat → Int) (n : Nat) {α : Type} (Q : α → Prop) : KasT α → Prop
  | .ret a => Q a
  | .ask i j k => i < n ∧ j < n ∧ Run key n Q (k (decide (key i < key j)))
theorem Run.mono {key : Nat → Int} {n : Nat} {α : Type} {Q Q' : α → Prop} (h : ∀ a, Q a → Q' a) : ∀ (t : KasT α), Run key n Q t → Run key n Q' t
  | .ret a, x => h a x
  | .ask _ _ k, ⟨a, b, x⟩ => ⟨a, b, Run.mono h _ x⟩
theorem Run.bind {key : Nat → Int} {n : Nat} {α β : Type} {Q : β → Prop} {f : α → KasT β} : ∀ (t : KasT α), Run key n (fun a => Run key n Q (f a)) t → Run key n Q (t.bind f)
  | .ret a, x => x
  | .ask _ _ k, ⟨a, b, x⟩ => ⟨a, b, Run.bind _ x⟩
theorem n1 {m f n : Nat} (h : m + (f + 1) ≤ n) : m < n := Nat.lt_of_lt_of_le (Nat.lt_add_of_pos_right (Nat.succ_pos f)) h
theorem n2 {m f n : Nat} (h : m + (f + 1) ≤ n) : m - 1 < n := Nat.lt_of_le_of_lt (Nat.sub_le m 1) (n1 h)
theorem n3 (m f : Nat) : m + 1 + f = m + (f + 1) := by rw [Nat.add_assoc, Nat.add_comm 1 f]
theorem n3' {m f n : Nat} (h : m + (f + 1) ≤ n) : m + 1 + f ≤ n := (n3 m f).symm ▸ h
theorem n4 {i m : Nat} (h : i < m + 1) (e : ¬ i = m) : i < m := Nat.lt_of_le_of_ne (Nat.le_of_lt_succ h) e
theorem n6 {r m f : Nat} (h : r ≤ m + 1 + f) : r ≤ m + (f + 1) := n3 m f ▸ h
theorem n7 {r m f : Nat} (h : r = m + 1 + f) : r = m + (f + 1) := n3 m f ▸ h
theorem n8 {i m : Nat} (a : m ≤ i) (b : i < m + 1) : i = m := Nat.le_antisymm (Nat.le_of_lt_succ b) a
section
variable {key : Nat → Int} {n : Nat}
structure Ord (n : Nat) (p : Array Nat) : Prop where
  sz : p.size = n
  pm : p.Perm (List.toArray (List.range n))
theorem Ord.lt {p : Array Nat} (o : Ord n p) {i : Nat} (h : i < n) : p.getD i 0 < n := by
  have hi : i < p.size := by rw [o.sz]; exact h
  have e : p.getD i 0 = p[i] := by simp [Array.getD, hi]
  have m : p[i] ∈ p := Array.getElem_mem hi
  have m2 : p[i] ∈ (List.toArray (List.range n)) := (Array.Perm.mem_iff o.pm).mp m
  rw [e]
  simpa using m2
def kv (key : Nat → Int) (p : Array Nat) (i : Nat) : Int := key (p.getD i 0)
theorem kv_congr {p q : Array Nat} {i j : Nat} (h : p[i]? = q[j]?) : kv key p i = kv key q j := by
  unfold kv
  rw [Array.getD_eq_getD_getElem?, Array.getD_eq_getD_getElem?, h]
theorem Ord.rev {p : Array Nat} (o : Ord n p) (i j : Nat) : Ord n (kas_rev p i j) := ⟨by unfold kas_rev; rw [mirror_size]; exact o.sz, (mirror_perm _ _ _ _).trans o.pm⟩
theorem Ord.bub {p : Array Nat} (o : Ord n p) (i j : Nat) : Ord n (bubble p i j) := ⟨by rw [bubble_size]; exact o.sz, (bubble_perm _ _ _).trans o.pm⟩
theorem kv_rev {p : Array Nat} {i j : Nat} (hj : j ≤ p.size) (k : Nat) : kv key (kas_rev p i j) k = if i ≤ k ∧ k < j then kv key p (i + j - 1 - k) else kv key p k := by
  have e := getElem?_mirror_all (i := i) hj k
  unfold kas_rev
  by_cases h : i ≤ k ∧ k < j
  · rw [if_pos h] at e ⊢; exact kv_congr e
  · rw [if_neg h] at e ⊢; exact kv_congr e
theorem kv_bub {p : Array Nat} {src d : Nat} (hs : src < p.size) (hd : d ≤ src) (k : Nat) : kv key (bubble p src d) k = if k = src - d then kv key p src else if src - d < k ∧ k ≤ src then kv key p (k - 1) else kv key p k := by
  have e := getElem?_bubble hs d hd k
  by_cases h1 : k = src - d
  · rw [if_pos h1] at e ⊢; exact kv_congr e
  · rw [if_neg h1] at e ⊢
    by_cases h2 : src - d < k ∧ k ≤ src
    · rw [if_pos h2] at e ⊢; exact kv_congr e
    · rw [if_neg h2] at e ⊢; exact kv_congr e
def Up (key : Nat → Int) (p : Array Nat) (m : Nat) : Prop := ∀ i, 1 ≤ i → i < m → kv key p (i - 1) ≤ kv key p i
def Down (key : Nat → Int) (p : Array Nat) (m : Nat) : Prop := ∀ i, 1 ≤ i → i < m → kv key p i ≤ kv key p (i - 1)
theorem Up.le {p : Array Nat} {m : Nat} (u : Up key p m) : ∀ {i j : Nat}, i ≤ j → j < m → kv key p i ≤ kv key p j := by
  intro i j h hj
  induction j with
  | zero => have : i = 0 := Nat.le_zero.mp h
            subst this; exact Int.le_refl _
  | succ j ih =>
    by_cases e : i = j + 1
    · subst e; exact Int.le_refl _
    · exact Int.le_trans (ih (Nat.le_of_lt_succ (Nat.lt_of_le_of_ne h e)) (Nat.lt_of_succ_lt hj)) (u (j + 1) (Nat.succ_le_succ (Nat.zero_le j)) hj)
theorem Down.le {p : Array Nat} {m : Nat} (u : Down key p m) : ∀ {i j : Nat}, i ≤ j → j < m → kv key p j ≤ kv key p i := by
  intro i j h hj
  induction j with
  | zero => have : i = 0 := Nat.le_zero.mp h
            subst this; exact Int.le_refl _
  | succ j ih =>
    by_cases e : i = j + 1
    · subst e; exact Int.le_refl _
    · exact Int.le_trans (u (j + 1) (Nat.succ_le_succ (Nat.zero_le j)) hj) (ih (Nat.le_of_lt_succ (Nat.lt_of_le_of_ne h e)) (Nat.lt_of_succ_lt hj))
theorem run_asc {p : Array Nat} (o : Ord n p) : ∀ (f m : Nat), 1 ≤ m → m + f ≤ n → Up key p m → Run key n (fun r => m ≤ r ∧ r ≤ m + f ∧ Up key p r ∧ (r = m + f ∨ (r < n ∧ kv key p r < kv key p (r - 1)))) (kas_asc p f m)
  | 0, m, h1, h2, u => ⟨Nat.le_refl _, Nat.le_refl _, u, .inl rfl⟩
  | f + 1, m, h1, h2, u => by
    refine ⟨o.lt (n1 h2), o.lt (n2 h2), ?_⟩
    by_cases c : key (p.getD m 0) < key (p.getD (m - 1) 0)
    · rw [decide_eq_true c]; dsimp only; (try rw [if_pos rfl])
      exact ⟨Nat.le_refl _, Nat.le_add_right _ _, u, .inr ⟨n1 h2, c⟩⟩
    · rw [decide_eq_false c]; dsimp only; (try rw [if_neg Bool.false_ne_true])
      have u' : Up key p (m + 1) := fun i i1 i2 => by
        by_cases e : i = m
        · subst e; exact Int.not_lt.mp c
        · exact u i i1 (n4 i2 e)
      refine Run.mono (fun r ⟨a, b, d, e⟩ => ⟨Nat.le_of_succ_le a, n6 b, d, ?_⟩) _ (run_asc o f (m + 1) (Nat.succ_le_succ (Nat.zero_le m)) (n3' h2) u')
      rcases e with e | e
      · exact .inl (n7 e)
      · exact .inr e
def Flat (key : Nat → Int) (p : Array Nat) (m q : Nat) : Prop := q + 1 ≤ m ∧ ∀ i, m - (q + 1) ≤ i → i < m → kv key p i = kv key p (m - 1)
theorem flat_rev {p : Array Nat} {m q : Nat} (hm : m ≤ p.size) (f : Flat key p m q) (k : Nat) : kv key (kas_rev p (m - (q + 1)) m) k = kv key p k := by
  rw [kv_rev hm]
  split
  · rename_i h
    rw [f.2 k h.1 h.2, f.2 _ (by omega) (by omega)]
  · rfl
theorem run_desc : ∀ (f : Nat) (p : Array Nat) (m q : Nat), Ord n p → m + f ≤ n → Down key p m → Flat key p m q →
    Run key n (fun r => Ord n r.1 ∧ m ≤ r.2.1 ∧ r.2.1 ≤ n ∧ Down key r.1 r.2.1 ∧ Flat key r.1 r.2.1 r.2.2) (kas_desc f p m q)
  | 0, p, m, q, o, h, d, fl => ⟨o, Nat.le_refl _, h, d, fl⟩
  | f + 1, p, m, q, o, h, d, fl => by
    have h1 : 1 ≤ m := Nat.le_trans (Nat.succ_le_succ (Nat.zero_le q)) fl.1
    refine ⟨o.lt (n1 h), o.lt (n2 h), ?_⟩
    by_cases c : key (p.getD m 0) < key (p.getD (m - 1) 0)
    · rw [decide_eq_true c]; dsimp only; (try rw [if_pos rfl])
      by_cases hq : q > 0
      · rw [if_pos hq]
        have kr := flat_rev (key := key) (p := p) (m := m) (q := q) (by rw [o.sz]; exact Nat.le_of_lt (n1 h)) fl
        refine Run.mono (fun r ⟨a, b, e⟩ => ⟨a, Nat.le_of_succ_le b, e⟩) _ (run_desc f _ (m + 1) 0 (o.rev _ _) (n3' h) (fun i i1 i2 => ?_) ⟨Nat.succ_le_succ (Nat.zero_le m), fun i i1 i2 => ?_⟩)
        · rw [kr, kr]
          by_cases e : i = m
          · subst e; exact Int.le_of_lt c
          · exact d i i1 (n4 i2 e)
        · have : i = m := n8 i1 i2
          subst this; rfl
      · rw [if_neg hq]
        refine Run.mono (fun r ⟨a, b, e⟩ => ⟨a, Nat.le_of_succ_le b, e⟩) _ (run_desc f _ (m + 1) 0 o (n3' h) (fun i i1 i2 => ?_) ⟨Nat.succ_le_succ (Nat.zero_le m), fun i i1 i2 => ?_⟩)
        · by_cases e : i = m
          · subst e; exact Int.le_of_lt c
          · exact d i i1 (n4 i2 e)
        · have : i = m := n8 i1 i2
          subst this; rfl
    · rw [decide_eq_false c]; dsimp only; (try rw [if_neg Bool.false_ne_true])
      refine ⟨o.lt (n2 h), o.lt (n1 h), ?_⟩
      by_cases c2 : key (p.getD (m - 1) 0) < key (p.getD m 0)
      · rw [decide_eq_true c2]; dsimp only; (try rw [if_pos rfl])
        exact ⟨o, Nat.le_refl _, Nat.le_of_lt (n1 h), d, fl⟩
      · rw [decide_eq_false c2]; dsimp only; (try rw [if_neg Bool.false_ne_true])
        have ee : kv key p m = kv key p (m - 1) := Int.le_antisymm (Int.not_lt.mp c2) (Int.not_lt.mp c)
        refine Run.mono (fun r ⟨a, b, e⟩ => ⟨a, Nat.le_of_succ_le b, e⟩) _ (run_desc f _ (m + 1) (q + 1) o (n3' h) (fun i i1 i2 => ?_) ⟨Nat.succ_le_succ fl.1, fun i i1 i2 => ?_⟩)
        · by_cases e : i = m
          · subst e; rw [ee]; exact Int.le_refl _
          · exact d i i1 (n4 i2 e)
        · show kv key p i = kv key p m
          by_cases e : i = m
          · subst e; rfl
          · rw [ee]; exact fl.2 i (by rw [Nat.succ_sub_succ] at i1; exact i1) (n4 i2 e)
def Good (key : Nat → Int) (n : Nat) (r : Nat × Array Nat) : Prop := Ord n r.2 ∧ 1 ≤ r.1 ∧ r.1 ≤ n ∧ Up key r.2 r.1
theorem run_tail3 {p : Array Nat} {m : Nat} (o : Ord n p) (h1 : 1 ≤ m) (h : m ≤ n) (d : Down key p m) : Run key n (Good key n) (kas_tail3 m n p) := by
  have e9 : m + (n - m) = n := Nat.add_sub_cancel' h
  refine Run.bind _ (Run.mono (fun r ⟨a, b, e, _⟩ => ⟨o.rev _ _, Nat.le_trans h1 a, Nat.le_trans b (Nat.le_of_eq e9), e⟩) _ (run_asc (o.rev 0 m) (n - m) m h1 (Nat.le_of_eq e9) fun i i1 i2 => ?_))
  have i3 : i - 1 < m := Nat.lt_of_le_of_lt (Nat.sub_le i 1) i2
  rw [kv_rev (by rw [o.sz]; exact h), kv_rev (by rw [o.sz]; exact h), if_pos ⟨Nat.zero_le _, i3⟩, if_pos ⟨Nat.zero_le _, i2⟩]
  exact d.le (Nat.sub_le_sub_left (Nat.sub_le i 1) _) (Nat.lt_of_le_of_lt (Nat.sub_le _ _) (by rw [Nat.zero_add]; exact Nat.sub_lt h1 Nat.one_pos))
theorem run_descPart {p : Array Nat} {m : Nat} (o : Ord n p) (h1 : 1 ≤ m) (h : m + 1 ≤ n) (d : Down key p (m + 1)) : Run key n (Good key n) (kas_descPart m n p) := by
  have fl0 : Flat key p (m + 1) 0 := ⟨Nat.succ_le_succ (Nat.zero_le m), fun i i1 i2 => by
    have e : i = m := n8 i1 i2
    rw [e]; rfl⟩
  refine Run.bind _ (Run.mono (fun r ⟨a, b, c, e, f⟩ => ?_) _ (run_desc (n - (m + 1)) p (m + 1) 0 o (by rw [Nat.add_sub_cancel' h]; exact Nat.le_refl _) d fl0))
  by_cases q : r.2.2 > 0
  · rw [if_pos q]
    have kr := flat_rev (key := key) (p := r.1) (m := r.2.1) (q := r.2.2) (by rw [a.sz]; exact c) f
    exact run_tail3 (a.rev _ _) (Nat.le_trans (Nat.succ_le_succ (Nat.zero_le m)) b) c fun i i1 i2 => by rw [kr, kr]; exact e i i1 i2
  · rw [if_neg q]
    exact run_tail3 a (Nat.le_trans (Nat.succ_le_succ (Nat.zero_le m)) b) c e
theorem run_count {p : Array Nat} (o : Ord n p) (h : 1 ≤ n) : Run key n (Good key n) (kas_count n p) := by
  refine Run.bind _ (Run.mono (fun r ⟨a, b, c, e⟩ => ?_) _ (run_asc o (n - 1) 1 (Nat.le_refl _) (by rw [Nat.add_sub_cancel' h]; exact Nat.le_refl _) fun i i1 i2 => absurd i1 (Nat.not_le.mpr i2)))
  have h9 : 1 + (n - 1) = n := Nat.add_sub_cancel' h
  rw [h9] at b e
  by_cases q : (r == n) = true
  · rw [if_pos q]
    exact ⟨o, a, b, c⟩
  · rw [if_neg q]
    have q' : r ≠ n := fun z => q (by rw [z]; exact beq_self_eq_true n)
    have e' : r < n ∧ kv key p r < kv key p (r - 1) := by
      rcases e with e | e
      · exact absurd e q'
      · exact e
    split
    · rename_i hr
      refine ⟨o.lt h, o.lt (Nat.lt_of_le_of_lt (Nat.sub_le r 1) e'.1), ?_⟩
      by_cases c2 : key (p.getD 0 0) < key (p.getD (r - 1) 0)
      · rw [decide_eq_true c2]; dsimp only; (try rw [if_pos rfl])
        exact ⟨o, a, b, c⟩
      · rw [decide_eq_false c2]; dsimp only; (try rw [if_neg Bool.false_ne_true])
        have fl : ∀ i, i < r → kv key p i = kv key p 0 := fun i hi => by
          have x1 := c.le (i := 0) (j := i) (Nat.zero_le i) hi
          have x2 := c.le (i := i) (j := r - 1) (Nat.le_sub_one_of_lt hi) (Nat.sub_lt a Nat.one_pos)
          have x3 : kv key p (r - 1) ≤ kv key p 0 := Int.not_lt.mp c2
          exact Int.le_antisymm (Int.le_trans x2 x3) x1
        have kr : ∀ k, kv key (kas_rev p 0 r) k = kv key p k := fun k => by
          rw [kv_rev (by rw [o.sz]; exact b)]
          split
          · rename_i hk
            rw [fl _ (Nat.lt_of_le_of_lt (Nat.sub_le _ k) (by rw [Nat.zero_add]; exact Nat.sub_lt a Nat.one_pos)), fl k hk.2]
          · rfl
        refine run_descPart (o.rev _ _) a e'.1 fun i i1 i2 => ?_
        rw [kr, kr]
        by_cases z : i = r
        · subst z; exact Int.le_of_lt e'.2
        · rw [fl i (n4 i2 z), fl (i - 1) (Nat.lt_of_le_of_lt (Nat.sub_le i 1) (n4 i2 z))]; exact Int.le_refl _
    · have hr : r = 1 := by omega
      refine run_descPart o a e'.1 fun i i1 i2 => ?_
      have : i = r := by omega
      subst this
      exact Int.le_of_lt e'.2
theorem mid_ {l r : Nat} (h : l < r) : (l + r) / 2 < r ∧ l ≤ (l + r) / 2 := by omega
theorem half1 {l r f m : Nat} (a : m < r) (h : r - l ≤ f + 1) : m - l ≤ f := by omega
theorem half2 {l r f m : Nat} (a : l ≤ m) (h : r - l ≤ f + 1) : r - (m + 1) ≤ f := by omega
theorem run_place {p : Array Nat} {k : Nat} (o : Ord n p) (hk : k < n) (u : Up key p k) : ∀ (f l r : Nat), l ≤ r → r ≤ k → r - l ≤ f → (∀ i, i < l → kv key p i ≤ kv key p k) → (∀ i, r ≤ i → i < k → kv key p k < kv key p i) →
    Run key n (fun m => m ≤ k ∧ (∀ i, i < m → kv key p i ≤ kv key p k) ∧ (∀ i, m ≤ i → i < k → kv key p k < kv key p i)) (kas_place p k f l r)
  | 0, l, r, h1, h2, h3, a, b => ⟨Nat.le_trans h1 h2, a, fun i i1 i2 => b i (Nat.le_trans (Nat.le_of_sub_eq_zero (Nat.le_zero.mp h3)) i1) i2⟩
  | f + 1, l, r, h1, h2, h3, a, b => by
    unfold kas_place
    by_cases c : l ≥ r
    · rw [if_pos c]
      exact ⟨Nat.le_trans h1 h2, a, fun i i1 i2 => b i (Nat.le_trans c i1) i2⟩
    · rw [if_neg c]
      have hm : (l + r) / 2 < r ∧ l ≤ (l + r) / 2 := mid_ (Nat.not_le.mp c)
      have hmk := Nat.lt_of_lt_of_le hm.1 h2
      refine ⟨o.lt hk, o.lt (Nat.lt_trans hmk hk), ?_⟩
      by_cases c2 : key (p.getD k 0) < key (p.getD ((l + r) / 2) 0)
      · rw [decide_eq_true c2]; dsimp only; (try rw [if_pos rfl])
        refine run_place o hk u f l _ hm.2 (Nat.le_of_lt hmk) (half1 hm.1 h3) a fun i i1 i2 => ?_
        exact Int.lt_of_lt_of_le c2 (u.le i1 i2)
      · rw [decide_eq_false c2]; dsimp only; (try rw [if_neg Bool.false_ne_true])
        refine run_place o hk u f _ r hm.1 h2 (half2 hm.2 h3) (fun i i1 => ?_) b
        exact Int.le_trans (u.le (j := (l + r) / 2) (Nat.le_of_lt_succ i1) hmk) (Int.not_lt.mp c2)
theorem run_bin : ∀ (f : Nat) (p : Array Nat) (k : Nat), Ord n p → 1 ≤ k → k + f = n → Up key p k → Run key n (fun r => Ord n r ∧ Up key r n) (kas_bin f p k)
  | 0, p, k, o, h1, h, u => by
    have : k = n := h
    subst this
    exact ⟨o, u⟩
  | f + 1, p, k, o, h1, h, u => by
    have hk : k < n := n1 (Nat.le_of_eq h)
    refine Run.bind _ (Run.mono (fun m ⟨a, b, c⟩ => ?_) _ (run_place o hk u k 0 k (Nat.zero_le k) (Nat.le_refl _) (Nat.sub_le k 0) (fun i hi => absurd hi (Nat.not_lt_zero i)) fun i i1 i2 => absurd i1 (Nat.not_le.mpr i2)))
    refine run_bin f _ (k + 1) (o.bub _ _) (Nat.succ_le_succ (Nat.zero_le k)) ((n3 k f).trans h) fun i i1 i2 => ?_
    rw [kv_bub (by rw [o.sz]; exact hk) (Nat.sub_le k m), kv_bub (by rw [o.sz]; exact hk) (Nat.sub_le k m), Nat.sub_sub_self a]
    have ik : i ≤ k := Nat.le_of_lt_succ i2
    have il : i - 1 < i := Nat.sub_lt i1 Nat.one_pos
    rcases Nat.lt_trichotomy i m with q | q | q
    · rw [if_neg (Nat.ne_of_lt (Nat.lt_trans il q)), if_neg (fun z => Nat.lt_asymm q (Nat.lt_trans z.1 il)), if_neg (Nat.ne_of_lt q), if_neg (fun z => Nat.lt_asymm q z.1)]
      exact u i i1 (Nat.lt_of_lt_of_le q a)
    · subst q
      rw [if_neg (Nat.ne_of_lt il), if_neg (fun z => Nat.lt_asymm il z.1), if_pos rfl]
      exact b _ il
    · rw [if_neg (show ¬ i = m from Nat.ne_of_gt q), if_pos (show m < i ∧ i ≤ k from ⟨q, ik⟩)]
      by_cases z : i - 1 = m
      · rw [if_pos z, z]
        exact Int.le_of_lt (c m (Nat.le_refl _) (Nat.lt_of_lt_of_le q ik))
      · have w := Nat.lt_of_le_of_ne (Nat.le_sub_one_of_lt q) (Ne.symm z)
        rw [if_neg z, if_pos ⟨w, Nat.le_of_lt (Nat.lt_of_lt_of_le il ik)⟩]
        exact u (i - 1) (Nat.le_trans (Nat.succ_le_succ (Nat.zero_le m)) w) (Nat.lt_of_lt_of_le il ik)
theorem run_sort (h : 1 ≤ n) : Run key n (fun r => Ord n r ∧ Up key r n) (kas_sort n) := by
  refine Run.bind _ (Run.mono (fun r ⟨a, b, c, d⟩ => ?_) _ (run_count ⟨by simp, Array.Perm.refl _⟩ h))
  split
  · have e : max r.1 1 = r.1 := by omega
    rw [e]
    exact run_bin _ _ _ a b (by omega) d
  · have e : r.1 = n := by omega
    rw [e] at d
    exact ⟨a, d⟩
end
end Srt
set_option Elab.async false
set_option linter.all false
set_option maxRecDepth 100000
namespace L2
open PySem PySem.Spec PyProof.Rows PySem.W
def lexKey (B : Int) (kz : List (Int × Int)) (i : Nat) : Int := (kz.getD i (0, 0)).1 * B + (kz.getD i (0, 0)).2
theorem lex_lt {B a b c d : Int} (hb : 0 ≤ b ∧ b < B) (hd : 0 ≤ d ∧ d < B) : (a * B + b < c * B + d) ↔ (a < c ∨ (a = c ∧ b < d)) := by
  have hB : 0 < B := by omega
  constructor
  · intro h
    by_cases e : a = c
    · subst e; exact .inr ⟨rfl, by omega⟩
    · refine .inl ?_
      refine Int.lt_of_not_ge fun g => ?_
      have g1 : c + 1 ≤ a := by omega
      have g2 := Int.mul_le_mul_of_nonneg_right g1 (Int.le_of_lt hB)
      rw [Int.add_mul, Int.one_mul] at g2
      omega
  · rintro (h | ⟨rfl, h⟩)
    · have g1 : a + 1 ≤ c := by omega
      have g2 := Int.mul_le_mul_of_nonneg_right g1 (Int.le_of_lt hB)
      rw [Int.add_mul, Int.one_mul] at g2
      omega
    · omega
theorem wp_of_run {key : Nat → Int} {n : Nat} {α : Type} {cmp : Nat → Nat → (Bool → Shared → Prop) → Shared → Prop} {s : Shared} {Q : α → Prop}
    (hc : ∀ i j C, i < n → j < n → C (decide (key i < key j)) s → cmp i j C s) : ∀ (t : KasT α), Srt.Run key n Q t → t.kasWp cmp (fun a s' => Q a ∧ s' = s) s
  | .ret a, x => ⟨x, rfl⟩
  | .ask i j k, ⟨h1, h2, x⟩ => hc i j _ h1 h2 (wp_of_run hc _ x)
structure KeysAt (H : Hp) (ks : List Value) (kz : List (Int × Int)) : Prop where
  len : ks.length = kz.length
  at_ : ∀ (i : Nat) (k : Value) (z : Int × Int), ks[i]? = some k → kz[i]? = some z → ∃ p, k = .ref p ∧ H p = some (.tup [.int z.1, .int z.2])
section
variable {X : Cx} {pins : List (Addr × Obj)} {σ : St} {H : Hp} {s : Shared}
theorem key_tup (I : Inv X pins σ H s) {p : Addr} {a b : Int} (h : H p = some (.tup [.int a, .int b])) : ∃ (o : Obj) (n : Nat) (t u : Tok), s.heap.get? p = some o ∧ o.cls = .type "tuple" ∧ o.data = .seq #[.int a t, .int b u] n := by
  obtain ⟨_, its, r, ⟨o, e, c, n, d⟩⟩ := I.hok p _ h
  cases r with
  | cons r1 rr =>
    cases rr with
    | cons r2 rr =>
      cases rr
      obtain ⟨t, rfl⟩ := r1
      obtain ⟨u, rfl⟩ := r2
      exact ⟨o, n, t, u, e, c, by simpa using d⟩
theorem key_less (I : Inv X pins σ H s) {A : Around} {p q : Addr} {a b c d : Int} (hp : H p = some (.tup [.int a, .int b])) (hq : H q = some (.tup [.int c, .int d])) {C : Bool → Shared → Prop} (h : C (decide (a < c ∨ (a = c ∧ b < d))) s) :
    wpAny (model X.prog X.w) A (keyLt' (tuples' true) (.ref p) (.ref q)) C (fun _ _ => False) s := by
  obtain ⟨o1, n1, t1, u1, e1, _, d1⟩ := key_tup I hp
  obtain ⟨o2, n2, t2, u2, e2, _, d2⟩ := key_tup I hq
  refine kat_lt e1 d1 e2 d2 ?_
  show KatLex _ _ _ true _ _ [(Value.int a t1, Value.int c t2), (Value.int b u1, Value.int d u2)] 0 s
  refine kat_cons (wpAny_eqBool_int ?_)
  by_cases e : a = c
  · subst e
    rw [beq_self_eq_true]
    refine kat_yes (kat_cons (wpAny_eqBool_int ?_))
    by_cases e' : b = d
    · subst e'
      rw [beq_self_eq_true]
      refine kat_yes (kat_nil ?_)
      have z : decide (a < a ∨ a = a ∧ b < b) = false := decide_eq_false (by omega)
      rw [z] at h
      exact h
    · rw [beq_eq_false_iff_ne.mpr e']
      refine kat_no (kat_one _ _ (lt_int ?_))
      have z : decide (a < a ∨ a = a ∧ b < d) = decide (b < d) := by
        rw [decide_eq_decide]; omega
      rw [z] at h
      exact h
  · rw [beq_eq_false_iff_ne.mpr e]
    refine kat_no (oneLt_int ?_)
    have z : decide (a < c ∨ a = c ∧ b < d) = decide (a < c) := by
      rw [decide_eq_decide]; omega
    rw [z] at h
    exact h
structure Young (X : Cx) (pins : List (Addr × Obj)) (b : Addr) : Prop where
  lo : b ≠ X.env.locals
  fs : b ∉ X.fs
  ge : b ∈ X.ex ∨ X.s₀.heap.objs.size ≤ b
  ce : ∀ x c, X.env.cells.lookup x = some c → c ≠ b
  pi : ∀ p ∈ X.pn ++ pins, p.1 ≠ b
theorem Inv.young (I : Inv X pins σ H s) {b : Addr} (hb : s.heap.objs.size ≤ b) : Young X pins b := by
  obtain ⟨_, a1, a2, a3, a4, a5⟩ := I.fpOk (b := b) hb (H' := fun _ => none) rfl
  exact ⟨a1, a2, a3, a4, a5⟩
theorem Inv.record (I : Inv X pins σ H s) {b : Addr} {h' : Heap} (y : Young X pins b) (hn : H b = none) (hs : Heap.SameBut b s.heap h') : Inv X pins σ H { s with heap := h' } :=
  I.turned (t' := s.toks) (fun c o nc e => (hs.2 c nc).trans e) hn y.lo y.ge y.ce y.pi
def SortPins (kS D : Addr) (ks : List Value) (e e1 : Nat) : List (Addr × Obj) := [(kS, seqObj "list" ks.toArray e), (D, seqObj "list" #[] e1)]
theorem Inv.sorting (I : Inv X pins σ H s) {kS D : Addr} {ks : List Value} {e e1 : Nat} (yk : Young X pins kS) (yD : Young X pins D) (hk : s.heap.get? kS = some (seqObj "list" ks.toArray e)) (hD : s.heap.get? D = some (seqObj "list" #[] e1)) (nk : H kS = none) (nD : H D = none) :
    Inv X (pins ++ SortPins kS D ks e e1) σ H s := I.pins_of fun p hp => by
  rcases List.mem_append.mp hp with hp | hp
  · exact I.pin p (List.mem_append_right _ hp)
  · rcases List.mem_cons.mp hp with rfl | hp
    · exact ⟨hk, nk, yk.lo, yk.fs, fun v z => by cases z⟩
    · obtain rfl := List.mem_singleton.mp hp
      exact ⟨hD, nD, yD.lo, yD.fs, fun v z => by cases z⟩
theorem sorted_pairs {E : Value → Shared → Prop} {Q : Value → Shared → Prop} (I : Inv X pins σ H s) {l f : Addr} {xs : List V} {kz : List (Int × Int)} {B : Int} (hl : SqL X.K H l xs) (h1 : 0 < xs.length) (h64 : xs.length < 64) (hkz : kz.length = xs.length) (hB : ∀ z ∈ kz, 0 ≤ z.2 ∧ z.2 < B)
    (Good : Hp → Prop) (hG : Good H)
    (turn : ∀ (pins' : List (Addr × Obj)) (i : Nat) (x : V) (v : Value) (z : Int × Int) (s' : Shared) (H' : Hp), xs[i]? = some x → kz[i]? = some z → RelV x v → Inv X pins' σ H' s' → Good H' →
      wpAny (model X.prog X.w) X.A.in1.in1 (call (.ref f) [v]) (fun k s'' => ∃ p H'', k = .ref p ∧ Inv X pins' σ H'' s'' ∧ Good H'' ∧ (∀ b o, H' b = some o → H'' b = some o) ∧ H'' p = some (.tup [.int z.1, .int z.2])) (fun _ _ => False) s')
    (q : ∀ (D : Addr) (p : Array Nat) (H' : Hp) (s' : Shared), Good H' → (∀ b o, H b = some o → H' b = some o) → H' D = none → Srt.Ord xs.length p → Srt.Up (lexKey B kz) p xs.length → Inv X pins σ (upd H' D (.lst (p.toList.map fun i => xs.getD i .non))) s' → Q (.ref D) s') :
    wpAny (model X.prog X.w) X.A (call (.builtin "sorted") [.ref l] [(Str.ofString "key", .ref f)]) Q E s := by
  obtain ⟨vs, rv, pl, hz⟩ := I.list hl
  have lv := rv.length
  have hsm : vs.length ≤ sizeLine := by omega
  refine call_function_entry_kw kind_sorted plain_sorted entry_sorted (ksk_s1 _ _) ?_
  unfold Builtin.«sorted»
  refine wpAny_bind (m := checkCount "sorted" 1 1 _) (wpAny_pure ?_)
  refine wpAny_bind (collect_list pl.isList ?_ hsm)
  refine wpAny_bind (wpAny_newList ?_ hsm)
  have z1 : ((s.heap.push (seqObj "list" #[] 0)).update s.heap.objs.size (Obj.mapSeq (· ++ vs.toArray))).objs.size = s.heap.objs.size + 1 := by rw [Heap.size_update, size_push']
  have keep1 : ∀ b o, s.heap.get? b = some o → (((s.heap.push (seqObj "list" #[] 0)).update s.heap.objs.size (Obj.mapSeq (· ++ vs.toArray))).push (seqObj "list" vs.toArray 0)).get? b = some o := fun b o e => by
    have hlt : b < s.heap.objs.size := Heap.lt_size e
    rw [Heap.get?_push_ne _ _ _ (by rw [z1]; exact Nat.ne_of_lt (Nat.lt_succ_of_lt hlt)), Heap.get?_update_ne _ _ _ _ (Nat.ne_of_lt hlt), Heap.get?_push_ne _ _ _ (Nat.ne_of_lt hlt)]
    exact e
  generalize hh1 : ((s.heap.push (seqObj "list" #[] 0)).update s.heap.objs.size (Obj.mapSeq (· ++ vs.toArray))).push (seqObj "list" vs.toArray 0) = h1' at keep1 ⊢
  have hD1 : h1'.get? (s.heap.objs.size + 1) = some (seqObj "list" vs.toArray 0) := by
    rw [← hh1, ← z1]; exact Heap.get?_push_size _ rfl
  have hs1 : s.heap.objs.size + 2 ≤ h1'.objs.size := by rw [← hh1, size_push', z1]; exact Nat.le_refl _
  show wpAny _ _ _ _ _ { s with heap := h1' }
  rw [z1]
  clear hh1
  have yD : Young X pins (s.heap.objs.size + 1) := I.young (Nat.le_succ _)
  have nD0 : H (s.heap.objs.size + 1) = none := I.hok.fresh (Nat.le_succ _)
  generalize hDD : s.heap.objs.size + 1 = D at hD1 yD nD0 ⊢
  have I1 : Inv X pins σ H { s with heap := h1' } := I.kept (t' := s.toks) keep1
  refine wpAny_bind (wpAny_holding (wpAny_call_entry_kw slot_list_sort ⟨_, hD1, rfl⟩ entry_list_sort ?body (ksk_l1 _ _)))
  case body =>
    show wpAny (model X.prog X.w) X.A.in1.in1 (Builtin.«list.sort» ⟨[.ref D], [(Str.ofString "key", .ref f)]⟩) _ _ _
    rw [ksk_t1]
    unfold ksk_tree
    refine wpAny_bind (listItems_at hD1 rfl ?_)
    refine wpAny_bind (listUpdate_at hD1 rfl ?_ (by rw [List.size_toArray]; omega) (Nat.zero_le _))
    have sb := Heap.SameBut.update h1' D (Obj.mapSeq fun _ => (#[] : Array Value))
    obtain ⟨e1, hD2⟩ : ∃ e1, (h1'.update D (Obj.mapSeq fun _ => (#[] : Array Value))).get? D = some (seqObj "list" #[] e1) := ⟨_, get?_update_seq hD1 fun _ => #[]⟩
    have I2 := I1.record (h' := h1'.update D (Obj.mapSeq fun _ => (#[] : Array Value))) yD nD0 sb
    have s2 : (h1'.update D (Obj.mapSeq fun _ => (#[] : Array Value))).objs.size = h1'.objs.size := sb.1
    generalize h1'.update D (Obj.mapSeq fun _ => (#[] : Array Value)) = h2' at hD2 I2 s2 ⊢
    refine wpAny_bind (seqEpoch_at hD2 rfl ?_)
    refine wpAny_bind (wpAny_newTuple ?_ hsm)
    refine wpAny_bind (wpAny_newList ?_ (Nat.zero_le _))
    refine wpAny_holding ?_
    have s3 : (h2'.push { cls := .type "tuple", data := .seq vs.toArray }).objs.size = h2'.objs.size + 1 := size_push' _ _
    have I3 : Inv X pins σ H { s with heap := (h2'.push { cls := .type "tuple", data := .seq vs.toArray }).push { cls := .type "list", data := .seq ([] : List Value).toArray } } :=
      I2.kept (t' := s.toks) fun b o e => Heap.get?_push_of_some _ (Heap.get?_push_of_some _ e)
    have hk3 : ((h2'.push { cls := .type "tuple", data := .seq vs.toArray }).push { cls := .type "list", data := .seq ([] : List Value).toArray }).get? (h2'.objs.size + 1) = some (seqObj "list" ([] : List Value).toArray 0) := by
      rw [← s3]; exact Heap.get?_push_size _ rfl
    have hD3 : ((h2'.push { cls := .type "tuple", data := .seq vs.toArray }).push { cls := .type "list", data := .seq ([] : List Value).toArray }).get? D = some (seqObj "list" #[] e1) := Heap.get?_push_of_some _ (Heap.get?_push_of_some _ hD2)
    have yk : Young X pins (h2'.objs.size + 1) := I2.young (Nat.le_succ _)
    have nk0 : H (h2'.objs.size + 1) = none := I2.hok.fresh (Nat.le_succ _)
    show wpAny _ _ (ksk_rest D (.ref f) false vs.toArray e1 (.ref (h2'.push { cls := .type "tuple", data := .seq vs.toArray }).objs.size)) _ _ _
    rw [s3]
    have kD : h2'.objs.size + 1 ≠ D := by
      have := Heap.lt_size hD2
      omega
    generalize h2'.objs.size + 1 = kS at hk3 yk nk0 kD ⊢
    generalize (h2'.push { cls := .type "tuple", data := .seq vs.toArray }).push { cls := .type "list", data := .seq ([] : List Value).toArray } = h3' at I3 hk3 hD3 ⊢
    unfold ksk_rest
    refine wpAny_bind (wpAny_rule ?_)
    rw [List.forIn_toArray]
    refine wpAny_bind (wpAny_mono (ksk_fold (fun i s' => ∃ (ks : List Value) (e : Nat) (H' : Hp), ks.length = i ∧ Inv X (pins ++ SortPins kS D ks e e1) σ H' s' ∧ Good H' ∧ (∀ b o, H b = some o → H' b = some o) ∧
        ∀ (j : Nat) (k : Value) (z : Int × Int), ks[j]? = some k → kz[j]? = some z → ∃ p, k = .ref p ∧ H' p = some (.tup [.int z.1, .int z.2])) vs 0 _ ?st ?turn ?done) (fun _ s' hq => hq) fun _ _ x => x)
    case st => exact ⟨[], 0, H, rfl, I3.sorting yk yD hk3 hD3 nk0 nD0, hG, fun _ _ e => e, fun j k z e => by simp at e⟩
    case turn =>
      rintro j v s' hv ⟨ks, e, H', hlen, I', g', sm, kk⟩
      have hj : j < vs.length := (List.getElem?_eq_some_iff.mp hv).1
      obtain ⟨x, hx⟩ : ∃ x, xs[j]? = some x := ⟨xs[j]'(by omega), List.getElem?_eq_getElem (by omega)⟩
      obtain ⟨z, hzz⟩ : ∃ z, kz[j]? = some z := ⟨kz[j]'(by omega), List.getElem?_eq_getElem (by omega)⟩
      obtain ⟨u, hu, ru⟩ := rv.get hx
      rw [hv] at hu
      cases hu
      refine wpAny_bind (wpAny_attempt (wpAny_mono (turn _ j x v z s' H' hx hzz ru I' g') (fun k s'' hk => ?_) fun _ _ hF => hF.elim))
      obtain ⟨p, H'', rfl, I'', g'', sm', hp⟩ := hk
      have pk := I''.pin (kS, seqObj "list" ks.toArray e) (List.mem_append_right _ (List.mem_append_right _ List.mem_cons_self))
      have pD := I''.pin (D, seqObj "list" #[] e1) (List.mem_append_right _ (List.mem_append_right _ (List.mem_cons_of_mem _ List.mem_cons_self)))
      dsimp only
      refine wpAny_bind (listUpdate_at pk.1 rfl ?_ (by rw [List.size_toArray]; omega) (by rw [Array.size_push, List.size_toArray]; omega))
      have sb' := Heap.SameBut.update s''.heap kS (Obj.mapSeq (·.push (Value.ref p)))
      have ea : ks.toArray.push (Value.ref p) = (ks ++ [Value.ref p]).toArray := by simp
      obtain ⟨c2, hc2⟩ : ∃ c2, (s''.heap.update kS (Obj.mapSeq (·.push (Value.ref p)))).get? kS = some (seqObj "list" (ks ++ [Value.ref p]).toArray c2) := ⟨_, by rw [← ea]; exact get?_update_seq pk.1 (·.push (Value.ref p))⟩
      have I4 := I''.unpinned.record yk pk.2.1 sb'
      refine wpAny_pure ⟨rfl, ks ++ [Value.ref p], c2, H'', by rw [List.length_append, hlen]; simp, I4.sorting yk yD hc2 ((sb'.2 D kD.symm).trans pD.1) pk.2.1 pD.2.1, g'', fun b o e => sm' b o (sm b o e), fun i k' z' e' ez => ?_⟩
      by_cases hi : i < ks.length
      · rw [List.getElem?_append_left hi] at e'
        obtain ⟨p', a1, a2⟩ := kk i k' z' e' ez
        exact ⟨p', a1, sm' _ _ a2⟩
      · have hi2 : i < (ks ++ [Value.ref p]).length := (List.getElem?_eq_some_iff.mp e').1
        rw [List.length_append, List.length_singleton] at hi2
        have hi3 : i = j := by omega
        subst hi3
        rw [hzz] at ez
        cases ez
        rw [List.getElem?_append_right (by omega)] at e'
        have e'' : some (Value.ref p) = some k' := by simpa [hlen] using e'
        cases e''
        exact ⟨p, rfl, hp⟩
    case done =>
      rintro s' ⟨ks, e, H', hlen, I', g', sm, kk⟩
      rw [Nat.zero_add] at hlen
      have pk := I'.pin (kS, seqObj "list" ks.toArray e) (List.mem_append_right _ (List.mem_append_right _ List.mem_cons_self))
      have pD := I'.pin (D, seqObj "list" #[] e1) (List.mem_append_right _ (List.mem_append_right _ (List.mem_cons_of_mem _ List.mem_cons_self)))
      have I0 : Inv X pins σ H' s' := I'.unpinned
      have KA : KeysAt H' ks kz := ⟨by omega, kk⟩
      refine wpAny_bind (listItems_at pk.1 rfl ?_)
      unfold ksk_end
      dsimp only
      simp only [Bool.false_eq_true, if_false]
      -- what comes behind the runs
      have tail : ∀ (st : SortSt) (p : Array Nat), arrOf st = p.map (kas_item (ks.toArray.zip vs.toArray)) → failedOf st = none → Srt.Ord xs.length p → Srt.Up (lexKey B kz) p xs.length →
          wpAny (model X.prog X.w) X.A.in1.in1 (ksk_tail D false e1 (.ref kS) st) (fun fin s'' => ∃ v, fin = .done (.ret v) ∧ wpAny (model X.prog X.w) X.A.in1 (ret (.ref D)) (fun fin s3 => ∃ v, fin = .done (.ret v) ∧ Q v s3) E s'') E s' := by
        intro st p ha hf po pu
        have out := kat_snds (ks := ks) (vs := vs) (by omega) ha
        unfold ksk_tail
        dsimp only
        rw [out, hf]
        have plen : (p.toList.map fun i => vs.getD i Value.none).length = vs.length := by rw [List.length_map, Array.length_toList, po.sz, lv]
        refine wpAny_bind (listUpdate_at pk.1 rfl ?_ (by rw [List.size_toArray]; omega) (Nat.zero_le _))
        have sb1 := Heap.SameBut.update s'.heap kS (Obj.mapSeq fun _ => (#[] : Array Value))
        have J1 := I0.record yk pk.2.1 sb1
        have hD4 : (s'.heap.update kS (Obj.mapSeq fun _ => (#[] : Array Value))).get? D = some (seqObj "list" #[] e1) := (sb1.2 D kD.symm).trans pD.1
        generalize s'.heap.update kS (Obj.mapSeq fun _ => (#[] : Array Value)) = h5 at J1 hD4 ⊢
        refine wpAny_bind (wpAny_letGo ?_)
        refine wpAny_bind (seqEpoch_at hD4 rfl ?_)
        simp only [Bool.false_eq_true, if_false, bne_self_eq_false]
        refine wpAny_bind (listUpdate_at hD4 rfl ?_ (Nat.zero_le _) (by rw [List.size_toArray, plen]; omega))
        have sb2 := Heap.SameBut.update h5 D (Obj.mapSeq fun _ => (p.toList.map fun i => vs.getD i Value.none).toArray)
        have J2 := J1.record yD pD.2.1 sb2
        obtain ⟨c3, hD5⟩ : ∃ c3, (h5.update D (Obj.mapSeq fun _ => (p.toList.map fun i => vs.getD i Value.none).toArray)).get? D = some (seqObj "list" (p.toList.map fun i => vs.getD i Value.none).toArray c3) := ⟨_, get?_update_seq hD4 _⟩
        generalize h5.update D (Obj.mapSeq fun _ => (p.toList.map fun i => vs.getD i Value.none).toArray) = h6 at J2 hD5 ⊢
        have rel : Vals (p.toList.map fun i => xs.getD i .non) (p.toList.map fun i => vs.getD i Value.none) := by
          have : ∀ (ls : List Nat), (∀ i ∈ ls, i < xs.length) → Vals (ls.map fun i => xs.getD i .non) (ls.map fun i => vs.getD i Value.none) := by
            intro ls
            induction ls with
            | nil => intro _; exact .nil
            | cons a r ih =>
              intro h
              refine .cons ?_ (ih fun i hi => h i (List.mem_cons_of_mem _ hi))
              have ha := h a List.mem_cons_self
              have := val_at rv (j := a) (by omega)
              show RelV (xs.getD a .non) (vs.getD a Value.none)
              rw [getD_at (xs := vs) (by omega : a < vs.length)]
              exact this
          refine this _ fun i hi => ?_
          have m : i ∈ p := by simpa using hi
          have m2 : i ∈ (List.toArray (List.range xs.length)) := (Array.Perm.mem_iff po.pm).mp m
          simpa using m2
        have J3 := J2.track (p := D) (o := .lst (p.toList.map fun i => xs.getD i .non)) pD.2.1 (Heap.get?_none_of_le (by rw [← hDD]; have := I.sz; omega)) yD.lo yD.ce yD.pi
          ⟨by rw [List.length_map, Array.length_toList, po.sz]; omega, _, c3, rel, hD5⟩
        refine wpAny_pure ⟨_, rfl, wpAny_pure ⟨_, rfl, q D p H' _ g' sm pD.2.1 po pu J3⟩⟩
      by_cases h2 : vs.toArray.size < 2
      · rw [if_pos h2, if_pos h2]
        rw [List.size_toArray] at h2
        refine wpAny_bind (wpAny_pure ?_)
        rw [StateT.run_pure]
        refine wpAny_bind (wpAny_pure ?_)
        dsimp only
        refine tail _ (List.toArray (List.range xs.length)) ?_ rfl ⟨by simp, Array.Perm.refl _⟩ fun i i1 i2 => by omega
        show ks.toArray.zip vs.toArray = _
        have e := kas_range (ks.toArray.zip vs.toArray)
        rw [show (ks.toArray.zip vs.toArray).size = xs.length by simp; omega] at e
        exact e.symm
      · rw [if_neg h2, if_neg h2]
        rw [List.size_toArray] at h2
        -- the keys' kind
        have KT : ∀ (ks' : List Value) (kz' : List (Int × Int)), ks'.length = kz'.length → (∀ (j : Nat) (k : Value) (z : Int × Int), ks'[j]? = some k → kz'[j]? = some z → ∃ p, k = .ref p ∧ H' p = some (.tup [.int z.1, .int z.2])) →
            ∃ fs : List Value, fs.length = ks'.length ∧ KatTups s'.heap ks' fs ∧ ∀ v ∈ fs, ∃ i t, v = Value.int i t := by
          intro ks'
          induction ks' with
          | nil => intro _ _ _; exact ⟨[], rfl, KatTups.nil, fun v hv => nomatch hv⟩
          | cons k r ih =>
            intro kz' hl' hk'
            cases kz' with
            | nil => simp at hl'
            | cons z rz =>
              obtain ⟨p, rfl, hp⟩ := hk' 0 k z rfl rfl
              obtain ⟨o, n, t, u, e1', e2', e3'⟩ := key_tup I0 hp
              obtain ⟨fs, f1, f2, f3⟩ := ih rz (by simpa using hl') fun j k z a b => hk' (j + 1) k z (by simpa using a) (by simpa using b)
              refine ⟨.int z.1 t :: fs, by simp [f1], KatTups.cons e1' e2' e3' rfl f2, fun v hv => ?_⟩
              rcases List.mem_cons.mp hv with rfl | hv
              · exact ⟨_, _, rfl⟩
              · exact f3 v hv
        obtain ⟨fs, f1, f2, f3⟩ := KT ks kz KA.len KA.at_
        refine wpAny_bind (kat_kind f2 (by omega) (T := .type "int") (fun v hv => ?_) (by decide) ?_)
        · obtain ⟨i, t, rfl⟩ := f3 v hv
          exact Looks.of_pure rfl
        have hkind : (Value.type "int" != Value.type "tuple") = true := by decide
        rw [hkind]
        have run := wp_of_run (key := lexKey B kz) (n := vs.length) (cmp := kas_ask X.prog X.w X.A.in1.in1 (tuples' true) ks) (s := s') (Q := fun r => Srt.Ord vs.length r ∧ Srt.Up (lexKey B kz) r vs.length) (fun i j C hi hj hC => ?_) _ (Srt.run_sort (n := vs.length) (by omega))
        · refine wpAny_bind (wpAny_mono (kat_run (Q := fun st' s'' => ∃ p, arrOf st' = p.map (kas_item (ks.toArray.zip vs.toArray)) ∧ failedOf st' = none ∧ (Srt.Ord vs.length p ∧ Srt.Up (lexKey B kz) p vs.length) ∧ s'' = s') (by omega) (by omega) (by omega)
            (fun p st' s'' a1 a2 a3 a4 => ⟨p, a2, a3, a4.1, a4.2⟩) run) ?_ fun _ _ x => x)
          rintro ⟨⟨⟩, st'⟩ s'' ⟨p, a2, a3, ⟨a4, a5⟩, rfl⟩
          dsimp only
          rw [← lv] at a4 a5
          exact tail st' p a2 a3 a4 a5
        · obtain ⟨ki, hki⟩ : ∃ k, ks[i]? = some k := ⟨ks[i]'(by omega), List.getElem?_eq_getElem (by omega)⟩
          obtain ⟨kj, hkj⟩ : ∃ k, ks[j]? = some k := ⟨ks[j]'(by omega), List.getElem?_eq_getElem (by omega)⟩
          obtain ⟨zi, hzi⟩ : ∃ z, kz[i]? = some z := ⟨kz[i]'(by omega), List.getElem?_eq_getElem (by omega)⟩
          obtain ⟨zj, hzj⟩ : ∃ z, kz[j]? = some z := ⟨kz[j]'(by omega), List.getElem?_eq_getElem (by omega)⟩
          obtain ⟨pi, rfl, hpi⟩ := kk i ki zi hki hzi
          obtain ⟨pj, rfl, hpj⟩ := kk j kj zj hkj hzj
          unfold kas_ask
          rw [List.getD_eq_getElem?_getD, List.getD_eq_getElem?_getD, hki, hkj]
          refine key_less I0 hpi hpj ?_
          have ei : kz.getD i (0, 0) = zi := by rw [List.getD_eq_getElem?_getD, hzi]; rfl
          have ej : kz.getD j (0, 0) = zj := by rw [List.getD_eq_getElem?_getD, hzj]; rfl
          unfold lexKey at hC
          rw [ei, ej] at hC
          rw [decide_eq_decide.mpr (lex_lt (hB zi (List.mem_of_getElem? hzi)) (hB zj (List.mem_of_getElem? hzj)))] at hC
          exact hC
end
end L2
set_option Elab.async false
set_option linter.all false
set_option maxRecDepth 100000
namespace L2
open PySem PySem.Spec PyProof.Rows PySem.W
end L2
set_option Elab.async false
set_option linter.all false
set_option maxRecDepth 100000
namespace L2
open PySem PySem.Spec PyProof.Rows PySem.W Builtin.Getset_descriptor
def ExcIs (ea C : Addr) : Heap → Prop := fun h => ∃ o, h.get? ea = some o ∧ o.cls = .ref C
theorem ExcIs.ty {M : Model} {h : Heap} {ea C : Addr} (x : ExcIs ea C h) : Looks M h (typeOf (.ref ea)) (.ref C) := by
  obtain ⟨o, e, c⟩ := x
  rw [← c]
  exact (Looks.ld e).andThen .now
section
variable {prog : Program} {w : World} {A : Around} {E : Value → Shared → Prop} {K : Frag} {x C : Addr}
theorem exc_class_get {s : Shared} {tp : Value} {R : Result → Shared → Prop} (X : K.In s.heap) (J : ExcIs x C s.heap) (hm : mroIn K C (.type "object") = some true) (q : R (.ok (.ret (.ref C))) s) :
    codeAny (model prog w) A (.call (.builtin "getset_descriptor.__get__") ⟨[.builtin "object.__class__", .ref x, tp], []⟩) R s := by
  obtain ⟨h0, g0, d0, t0, o0⟩ := s
  have LT := J.ty (M := model prog w)
  have LM := looks_mroIn (M := model prog w) X hm
  refine codeAny_call_builtin KF.slot_gs.plain KF.entry_gs ?_
  refine KF.slot_gs.check _ _ _ _ _ _ _ _ KF.type_class (KF.args_gs _ _ _) ?_
  unfold Builtin.«getset_descriptor.__get__»
  unfold descrGet
  rw [dga_obj]
  refine wpAny_bind ?_
  refine wpAny_pure ?_
  unfold descrGetter
  unfold descrCheckInstance
  unfold descrNameAndClass
  unfold isInstance
  simp only [KF.owner_class]
  repeat lk
  refine ⟨Code.quiet_builtin _ (by decide +kernel), ?_⟩
  refine codeAny_builtin KF.entry_class ?_
  unfold Builtin.«object.__class__»
  unfold shownTypeOf
  repeat lk
  exact q
structure ExcCls (K : Frag) (C : Addr) : Prop where
  ga : findIn K (.ref C) "__getattribute__" = some (some (.builtin "BaseException.__getattribute__"))
  gn : findIn K (.ref C) "__getattr__" = some none
  ha : findIn K (.ref C) "__class__" = some (some (.builtin "object.__class__"))
  hn : specialIn K (.builtin "object.__class__") "__get__" = some (some (.builtin "getset_descriptor.__get__"))
  tk : takesIn K (.builtin "object.__class__") = some true
  mo : mroIn K C (.type "object") = some true
  mb : mroIn K C (.type "BaseException") = some true
  ty : typeIn K (.ref C) = some (.type "type")
  cl : (clsIn K C).isSome = true
theorem exc_find {M : Model} {h : Heap} (X : K.In h) (J : ExcIs x C h) (c : ExcCls K C) : Looks M h (Builtin.ObjectAttr.find (.ref x) (.ref C) "__class__") (.bind (.builtin "getset_descriptor.__get__") (.builtin "object.__class__")) := by
  have L1 := looks_findIn (M := M) X c.ha
  have L2 : Looks M h (Builtin.ObjectAttr.getOf (some (.builtin "object.__class__"))) (some (.builtin "getset_descriptor.__get__")) := looks_specialIn X c.hn
  have L3 := looks_takesIn (M := M) X c.tk
  exact L1.andThen (L2.andThen ((show Looks M h (Builtin.ObjectAttr.dataDescriptor? (some (.builtin "object.__class__")) (some (.builtin "getset_descriptor.__get__"))) (some (.builtin "getset_descriptor.__get__", .builtin "object.__class__")) from L3.andThen .now).andThen (Looks.tag .now)))
theorem exc_entry {s : Shared} {tk : Tok} {R : Result → Shared → Prop} (X : K.In s.heap) (J : ExcIs x C s.heap) (c : ExcCls K C) (q : R (.ok (.ret (.ref C))) s) :
    codeAny (model prog w) A (.call (.builtin "BaseException.__getattribute__") ⟨[.ref x, .str "__class__" tk], []⟩) R s := by
  obtain ⟨h0, g0, d0, t0, o0⟩ := s
  have LT := J.ty (M := model prog w)
  have LF := exc_find (M := model prog w) X J c
  have LB := looks_mroIn (M := model prog w) X c.mb
  refine codeAny_call_builtin PySem.F.attr_ValueError.ga.plain PySem.F.entry_bexc_ga ?_
  have hk : builtinKind "BaseException.__getattribute__" = some .slot := by decide +kernel
  have hsp : splitId "BaseException.__getattribute__" = some ("BaseException", "__getattribute__") := by decide +kernel
  have hao := PySem.F.args_bexc_ga (.ref x) (.str "__class__" tk)
  simp only [checkBuiltinCall, hk, hsp]
  refine wpAny_bind ?_
  unfold isInstance
  repeat (any_goals (first | assumption | with_reducible refine Looks.at (by assumption) ?_ | wp_step))
  refine exc_class_get X J c.mo ?_
  repeat (any_goals (first | assumption | wp_step))
theorem exc_attr {s : Shared} {Q : Option Value → Shared → Prop} (X : K.In s.heap) (J : ExcIs x C s.heap) (c : ExcCls K C) (q : Q (some (.ref C)) { s with toks := s.toks + 1 }) : wpAny (model prog w) A (getAttr? (.ref x) "__class__") Q E s := by
  obtain ⟨h0, g0, d0, t0, o0⟩ := s
  have LT := J.ty (M := model prog w)
  have L1 := looks_findIn (M := model prog w) X c.ga
  have L2 := looks_findIn (M := model prog w) X c.gn
  have f3 := PySem.F.attr_ValueError.ga.bind (.ref x)
  have hx2 : (Value.builtin "BaseException.__getattribute__" == Value.builtin "object.__getattribute__") = false := by decide +kernel
  have hx1 : (onTheHeap (Value.ref C) && Value.builtin "BaseException.__getattribute__" == Value.builtin "object.__getattribute__") = false := by rw [hx2]; rfl
  unfold getAttr? getAttrBy?
  repeat (any_goals (first | assumption | with_reducible refine Looks.at (by assumption) ?_ | wp_step))
  refine exc_entry X J c ?_
  repeat (any_goals (first | assumption | wp_step))
theorem kitx_exc (c : ExcCls K C) : KitX K (.ref x) (.ref C) (ExcIs x C) where
  ty := fun _ _ _ J => J.ty
  it := fun M h X _ => by
    obtain ⟨cd, hc⟩ := Option.isSome_iff_exists.mp c.cl
    unfold clsIn at hc
    split at hc
    · rename_i a1 a2 a3 a4 ho
      intro A' Q' E' s' k z
      unfold isType loadHead
      exact wpAny_bind (wpAny_loadPart (k _ _ (X _ _ ho)) (wpAny_pure z))
    · cases hc
  ne := fun h tp dd its n sl X htp => by
    obtain ⟨cd, hc⟩ := Option.isSome_iff_exists.mp c.cl
    refine Bool.eq_false_iff.mpr fun q => ?_
    obtain rfl : C = tp := Value.ref.inj (beq_iff_eq.mp q)
    unfold clsIn at hc
    split at hc
    · rename_i a1 a2 a3 a4 ho
      have z := (X _ _ ho).symm.trans htp
      cases z
    · cases hc
  ca := fun X J k => exc_attr X J c k
end
end L2
set_option Elab.async false
set_option linter.all false
set_option maxRecDepth 100000
namespace L2
open PySem PySem.Spec PyProof.Rows PySem.W
end L2
set_option Elab.async false
set_option linter.all false
set_option maxRecDepth 100000
namespace L2
open PySem PySem.Spec PyProof.Rows
end L2
set_option Elab.async false
set_option linter.all false
set_option maxRecDepth 100000
namespace L2
open PySem PySem.Spec PyProof.Rows
def Evl (t : TE) (σ : St) (H : Hp) (v : V) : Prop := ∀ Q : VK, Q v H → t σ H Q
def Tst (t : TT) (σ : St) (H : Hp) (p : Prop) [Decidable p] : Prop := ∀ Q : Bool → Hp → Prop, Q (decide p) H → t σ H Q
section
variable {σ : St} {H : Hp} {ta tb tc : TE} {x y v : V} {i j k : Int} {K : PySem.W.Frag} {D : Ends} {n m : Nat}
theorem evl_var {i : Nat} (h : σ[i]? = some (some v)) : Evl (tVar i) σ H v := fun Q q => ⟨v, h, q⟩
theorem evl_c : Evl (tC v) σ H v := fun Q q => q
theorem evl_I0 {g : Int → Int → V} (a : Evl ta σ H (.int i)) (b : Evl tb σ H (.int j)) : Evl (tOp (rI0 g) ta tb) σ H (g i j) := fun Q q => a _ (b _ ⟨i, j, rfl, rfl, q⟩)
theorem evl_I {C : Int → Int → Prop} {g : Int → Int → V} (a : Evl ta σ H (.int i)) (b : Evl tb σ H (.int j)) (c : C i j) : Evl (tOp (rI C g) ta tb) σ H (g i j) := fun Q q => a _ (b _ ⟨i, j, rfl, rfl, c, q⟩)
theorem evl_eqI (a : Evl ta σ H (.int i)) (b : Evl tb σ H (.int j)) : Evl (tOp rEq ta tb) σ H (.bl (decide (i = j))) := fun Q q => a _ (b _ ⟨rfl, by
  have e : decide (V.int i = V.int j) = decide (i = j) := by
    rw [decide_eq_decide]
    exact ⟨fun z => V.int.inj z, fun z => by rw [z]⟩
  rw [e]
  exact q⟩)
theorem evl_ixT {p : Addr} {xs : List V} (a : Evl ta σ H (.ref p)) (b : Evl tb σ H (.int i)) (h : SqT K H p xs) (e : atI xs i = some v) : Evl (tOp (rIxT K) ta tb) σ H v := fun Q q => a _ (b _ ⟨p, xs, i, v, rfl, rfl, h, e, q⟩)
theorem evl_ixL {p : Addr} {xs : List V} (a : Evl ta σ H (.ref p)) (b : Evl tb σ H (.int i)) (h : SqL K H p xs) (e : atI xs i = some v) : Evl (tOp (rIxL K) ta tb) σ H v := fun Q q => a _ (b _ ⟨p, xs, i, v, rfl, rfl, h, e, q⟩)
theorem evl_lenL {p : Addr} {ys : List V} (a : Evl ta σ H (.ref p)) (h : SqL K H p ys) : Evl (tCB (fun xs H Q => ∃ p ys, xs = [.ref p] ∧ (SqL K H p ys ∨ SqT K H p ys) ∧ Q (.int ys.length) H) (tCons ta tNil)) σ H (.int ys.length) := fun Q q => a _ ⟨p, ys, rfl, .inl h, q⟩
theorem evl_lenT {p : Addr} {ys : List V} (a : Evl ta σ H (.ref p)) (h : SqT K H p ys) : Evl (tCB (fun xs H Q => ∃ p ys, xs = [.ref p] ∧ (SqL K H p ys ∨ SqT K H p ys) ∧ Q (.int ys.length) H) (tCons ta tNil)) σ H (.int ys.length) := fun Q q => a _ ⟨p, ys, rfl, .inr h, q⟩
theorem evl_chain {f g : Int → Int → Bool} (a : Evl ta σ H (.int i)) (b : Evl tb σ H (.int j)) (c : Evl tc σ H (.int k)) : Evl (tChain (rI0 fun i j => .bl (f i j)) (rI0 fun i j => .bl (g i j)) ta tb tc) σ H (.bl (f i j && g j k)) := fun Q q => a _ (b _ ⟨i, j, rfl, rfl, _, rfl, by
  cases e : f i j with
  | true =>
    rw [if_pos rfl]
    rw [e, Bool.true_and] at q
    exact c _ ⟨j, k, rfl, rfl, q⟩
  | false =>
    rw [if_neg Bool.false_ne_true]
    rw [e, Bool.false_and] at q
    exact q⟩)
theorem evl_andV {p q : Bool} (a : Evl ta σ H (.bl p)) (b : Evl tb σ H (.bl q)) : Evl (tAndV ta tb) σ H (.bl (p && q)) := fun Q z => a _ ⟨p, rfl, by
  cases p with
  | true => rw [if_pos rfl]; exact b _ z
  | false => rw [if_neg Bool.false_ne_true]; exact z⟩
theorem tst_of {p : Prop} [Decidable p] (a : Evl ta σ H (.bl (decide p))) : Tst (tTest ta) σ H p := fun Q q => a _ ⟨_, rfl, q⟩
theorem tst_and {t u : TT} {p q : Prop} [Decidable p] [Decidable q] (a : Tst t σ H p) (b : Tst u σ H q) : Tst (tAnd t u) σ H (p ∧ q) := fun Q z => a _ (by
  by_cases h : p
  · rw [decide_eq_true h, if_pos rfl]
    refine b _ ?_
    have e : decide (p ∧ q) = decide q := by rw [decide_eq_decide]; exact ⟨fun z => z.2, fun z => ⟨h, z⟩⟩
    rw [← e]; exact z
  · rw [decide_eq_false h, if_neg Bool.false_ne_true]
    have e : decide (p ∧ q) = false := decide_eq_false fun z => h z.1
    rw [← e]; exact z)
theorem tst_not {t : TT} {p : Prop} [Decidable p] (a : Tst t σ H p) : Tst (tNot t) σ H (¬ p) := fun Q z => a _ (by
  have e : (!decide p) = decide (¬ p) := by simp
  show Q (!decide p) H
  rw [e]; exact z)
theorem tst_if {t : TT} {a b : TS} {p : Prop} [Decidable p] (h : Tst t σ H p) (h1 : p → a D σ H) (h2 : ¬ p → b D σ H) : tIfS t a b D σ H := h _ (by
  by_cases c : p
  · rw [decide_eq_true c, if_pos rfl]; exact h1 c
  · rw [decide_eq_false c, if_neg Bool.false_ne_true]; exact h2 c)
theorem seq_if {t : TT} {a b u : TS} {p : Prop} [Decidable p] (h : Tst t σ H p) (h1 : p → a { D with nx := u D } σ H) (h2 : ¬ p → b { D with nx := u D } σ H) : tSeq (tIfS t a b) u D σ H := tst_if h h1 h2
theorem seq_asg {i : Nat} {u : TS} (h : Evl ta σ H v) (q : u D (σ.set i (some v)) H) : tSeq (tAsg ta (gName i)) u D σ H := h _ q
theorem run_ret (h : Evl ta σ H v) (q : D.rt v H) : tRet ta D σ H := h _ q
theorem run_unp4 {a b c d : Nat} {p : Addr} {v1 v2 v3 v4 : V} (h : Evl ta σ H (.ref p)) (t : SqT K H p [v1, v2, v3, v4]) (q : D.nx ((((σ.set a (some v1)).set b (some v2)).set c (some v3)).set d (some v4)) H) :
    tAsg ta (gTup K 4 (gCons (gName a) (gCons (gName b) (gCons (gName c) (gCons (gName d) gNil))))) D σ H := h _ ⟨p, _, rfl, t, rfl, _, _, rfl, _, _, rfl, _, _, rfl, _, _, rfl, rfl, q⟩
theorem seq_unp4 {a b c d : Nat} {p : Addr} {v1 v2 v3 v4 : V} {u : TS} (h : Evl ta σ H (.ref p)) (t : SqT K H p [v1, v2, v3, v4]) (q : u D ((((σ.set a (some v1)).set b (some v2)).set c (some v3)).set d (some v4)) H) :
    tSeq (tAsg ta (gTup K 4 (gCons (gName a) (gCons (gName b) (gCons (gName c) (gCons (gName d) gNil)))))) u D σ H := run_unp4 h t q
theorem run_tup4 {t1 t2 t3 t4 : TE} {v1 v2 v3 v4 : V} {Q : VK} (h1 : Evl t1 σ H v1) (h2 : Evl t2 σ H v2) (h3 : Evl t3 σ H v3) (h4 : Evl t4 σ H v4) (q : ∀ p, H p = none → Q (.ref p) (upd H p (.tup [v1, v2, v3, v4]))) :
    tTup (tCons t1 (tCons t2 (tCons t3 (tCons t4 tNil)))) σ H Q := h1 _ (h2 _ (h3 _ (h4 _ ⟨by show 4 ≤ sizeLine; decide, q⟩)))
theorem cons_tup4 {t1 t2 t3 t4 : TE} {tr : TA} {v1 v2 v3 v4 : V} {Q : List V → Hp → Prop} (h1 : Evl t1 σ H v1) (h2 : Evl t2 σ H v2) (h3 : Evl t3 σ H v3) (h4 : Evl t4 σ H v4) (q : ∀ p, H p = none → tr σ (upd H p (.tup [v1, v2, v3, v4])) fun xs H2 => Q (.ref p :: xs) H2) :
    tCons (tTup (tCons t1 (tCons t2 (tCons t3 (tCons t4 tNil))))) tr σ H Q := run_tup4 (Q := fun x H1 => tr σ H1 fun xs H2 => Q (x :: xs) H2) h1 h2 h3 h4 q
theorem run_next (h : D.nx σ H) : tNext D σ H := h
end
end L2
set_option Elab.async false
set_option linter.all false
set_option maxRecDepth 100000
namespace L2
open PySem PySem.Spec PyProof.Rows
theorem iteF_of {A B : Prop} (h : if false = true then A else B) : B := by rwa [if_neg Bool.false_ne_true] at h
theorem iteT_of {A B : Prop} (h : if true = true then A else B) : A := by rwa [if_pos rfl] at h
def cxComp (X : Cx) (Nc : List Str) (scope : Scope) (cl : List (Str × Addr)) (s : Shared) (H : Hp) (C : Addr) (fp : List Addr) : Cx :=
  { X with N := Nc, s₀ := s, H₀ := H, env := compEnvC scope cl C X.env, outer := X.stack, ex := fp, fn := fun _ => false, pn := [], xe := fun _ _ => False }
def seen (ix : List (Option Nat)) (σ : St) : St := ix.map fun o => match o with
  | some j => (σ[j]?).getD none
  | none => none
theorem closure_of {scope : Scope} {env : Env} (h : ∀ x ∈ scope.names, x.2 = .free → ∃ c, env.cells.lookup x.1 = some c) :
    ∃ cl, closureFor scope env = pure cl ∧ (∀ x c, cl.lookup x = some c → env.cells.lookup x = some c) ∧ ∀ x ∈ scope.names, x.2 = .free → ∃ c, cl.lookup x.1 = some c := by
  have go : ∀ (ns : List (Str × NameKind)) (cs : List (Str × Addr)), (∀ x ∈ ns, x.2 = .free → ∃ c, env.cells.lookup x.1 = some c) → (∀ x c, cs.lookup x = some c → env.cells.lookup x = some c) →
      ∃ cl, (forIn ns cs fun (x : Str × NameKind) (r : List (Str × Addr)) => (if (x.2 == .free) = true then (do let c ← cellOf env x.1; pure (ForInStep.yield ((x.1, c) :: r))) else pure (ForInStep.yield r) : Sem _)) = pure cl ∧
        (∀ x c, cl.lookup x = some c → env.cells.lookup x = some c) ∧ (∀ x ∈ ns, x.2 = .free → ∃ c, cl.lookup x.1 = some c) ∧ ∀ x c, cs.lookup x = some c → ∃ c', cl.lookup x = some c' := by
    intro ns
    induction ns with
    | nil => intro cs _ h2; exact ⟨cs, rfl, h2, fun x hx => (nomatch hx), fun x c e => ⟨c, e⟩⟩
    | cons p r ih =>
      obtain ⟨n, k⟩ := p
      intro cs h1 h2
      by_cases hk : k = .free
      · subst hk
        obtain ⟨c, hc⟩ := h1 (n, .free) List.mem_cons_self rfl
        have hcs : ∀ x c', List.lookup x ((n, c) :: cs) = some c' → env.cells.lookup x = some c' := fun x c' e => by
          rw [List.lookup_cons] at e
          cases hx : x == n with
          | true => rw [hx] at e; cases e; rw [eq_of_beq hx]; exact hc
          | false => rw [hx] at e; exact h2 x c' e
        obtain ⟨cl, e1, e2, e3, e4⟩ := ih ((n, c) :: cs) (fun x hx => h1 x (List.mem_cons_of_mem _ hx)) hcs
        refine ⟨cl, ?_, e2, fun x hx hf => ?_, fun x c' e => ?_⟩
        · rw [List.forIn_cons]
          have : cellOf env n = pure c := by unfold cellOf; rw [hc]
          simp only [beq_self_eq_true, if_true, this, pure_bind]
          exact e1
        · rcases List.mem_cons.mp hx with rfl | hx
          · exact e4 n c (by rw [List.lookup_cons, beq_self_eq_true])
          · exact e3 x hx hf
        · cases hx : x == n with
          | true => exact e4 x c (by rw [List.lookup_cons, hx])
          | false => exact e4 x c' (by rw [List.lookup_cons, hx]; exact e)
      · obtain ⟨cl, e1, e2, e3, e4⟩ := ih cs (fun x hx => h1 x (List.mem_cons_of_mem _ hx)) h2
        refine ⟨cl, ?_, e2, fun x hx hf => ?_, e4⟩
        · rw [List.forIn_cons]
          have hb : (k == NameKind.free) = false := by simpa using hk
          simp only [hb, Bool.false_eq_true, if_false, pure_bind]
          exact e1
        · rcases List.mem_cons.mp hx with rfl | hx
          · exact absurd hf hk
          · exact e3 x hx hf
  obtain ⟨cl, e1, e2, e3, _⟩ := go scope.names [] h (fun x c e => by cases e)
  refine ⟨cl, ?_, e2, e3⟩
  unfold closureFor
  simp only [bind_pure]
  exact e1
def PTs (X : Cx) (ifs : List Expr) (t : TT) : Prop :=
  ∀ (pins : List (Addr × Obj)) (s : Shared) (σ : St) (H : Hp) (Q : Bool → Hp → Prop), Inv X pins σ H s → t σ H Q →
    wpAny (model X.prog X.w) X.A (forIn ifs true fun c r => if r = true then do let ok ← isTrue c X.env (eval c X.env); pure (ForInStep.yield ok) else pure (ForInStep.yield r)) (TP X pins σ Q) X.xe s
def tYes : TT := fun _ H Q => Q true H
theorem pts_nil {X : Cx} : PTs X [] tYes := fun _ _ _ H _ I h => wpAny_tests_nil ⟨H, I, h⟩
theorem pts_one {X : Cx} {c : Expr} {t : TT} (h : PT X c t) : PTs X [c] t := fun pins s σ H Q I q => wpAny_tests_one (h pins s σ H Q I q)
def tCompR (wi : TI) (ix : List (Option Nat)) (g : TG) (tc : TT) (te : TE) (σ : St) (H : Hp) (R : List V → Hp → Prop) : Prop := wi σ H fun J H1 => ∃ W : Nat → Nat → List V → St → Hp → Prop, (∃ m, W 0 m [] (seen ix σ) H1) ∧ ∀ i m ys σ' H', W i m ys σ' H' →
  (J.stop i H' ∧ ys.length ≤ sizeLine ∧ R ys H') ∨
  (J.go i H' ∧ ys.length ≤ sizeLine ∧ ∃ N : List V → St → Hp → Prop, (∀ ys' σ2 H2, N ys' σ2 H2 → ∃ m', m' < m ∧ W (i + 1) m' ys' σ2 H2) ∧
    ∀ x H2, J.yld i H' x H2 → g x σ' H2 fun σ2 H3 => tc σ2 H3 fun b H4 => if b = true then te σ2 H4 fun y H5 => N (ys ++ [y]) σ2 H5 else N ys σ2 H4)
def tComp (wi : TI) (ix : List (Option Nat)) (g : TG) (tc : TT) (te : TE) : TE := fun σ H Q => tCompR wi ix g tc te σ H fun ys H' => ∀ l, H' l = none → Q (.ref l) (upd H' l (.lst ys))
def compOk (scope outer : Scope) (N Nc : List Str) (ix : List (Option Nat)) : Bool :=
  scope.names.all (fun y => y.2 != .cell) && scope.kind == .function && scope.names.all (fun y => y.2 != .local || scope.names.lookup y.1 == some .local) &&
  scope.names.all (fun y => y.2 != .free || outer.names.lookup y.1 == some .cell || outer.names.lookup y.1 == some .free) && ix.length == Nc.length &&
  (List.range Nc.length).all fun i => match ix[i]?, Nc[i]? with
    | some (some j), some x => N[j]? == some x && (outer.names.lookup x == some .cell || outer.names.lookup x == some .free) && scope.names.lookup x == some .free
    | _, _ => true
theorem relabel_of {env : Env} : ∀ {names : List (Str × NameKind)} {y : Str} {k : NameKind}, (∀ z ∈ names, z.2 ≠ .cell) →
    (names.map fun (n, k) => if (k == NameKind.free && env.scope.kind == .function && env.kindOf n == some .cell) then (n, NameKind.cell) else (n, k)).lookup y = some k → k = .cell ∨ k = .free → ∃ z ∈ names, z.1 = y ∧ z.2 = .free
  | [], _, _, _, h, _ => by simp at h
  | (n, k0) :: r, y, k, hc, h, hk => by
    rw [List.map_cons] at h
    have h : List.lookup y ((if (k0 == NameKind.free && env.scope.kind == .function && env.kindOf n == some .cell) = true then (n, NameKind.cell) else (n, k0)) :: _) = some k := h
    cases hx : y == n with
    | true =>
      by_cases hb : (k0 == NameKind.free && env.scope.kind == .function && env.kindOf n == some .cell) = true
      · simp only [Bool.and_eq_true, beq_iff_eq] at hb
        exact ⟨(n, k0), List.mem_cons_self, (eq_of_beq hx).symm, hb.1.1⟩
      · rw [if_neg hb, List.lookup_cons, hx] at h
        cases h
        rcases hk with rfl | rfl
        · exact absurd rfl (hc (n, .cell) List.mem_cons_self)
        · exact ⟨(n, .free), List.mem_cons_self, (eq_of_beq hx).symm, rfl⟩
    | false =>
      have h' : List.lookup y (r.map fun (n, k) => if (k == NameKind.free && env.scope.kind == .function && env.kindOf n == some .cell) then (n, NameKind.cell) else (n, k)) = some k := by
        by_cases hb : (k0 == NameKind.free && env.scope.kind == .function && env.kindOf n == some .cell) = true
        · rw [if_pos hb, List.lookup_cons, hx] at h; exact h
        · rw [if_neg hb, List.lookup_cons, hx] at h; exact h
      obtain ⟨z, hz, e1, e2⟩ := relabel_of (fun z hz => hc z (List.mem_cons_of_mem _ hz)) h' hk
      exact ⟨z, List.mem_cons_of_mem _ hz, e1, e2⟩
theorem relabel_free {env : Env} : ∀ {names : List (Str × NameKind)} {y : Str}, names.lookup y = some .free →
    (names.map fun (n, k) => if (k == NameKind.free && env.scope.kind == .function && env.kindOf n == some .cell) then (n, NameKind.cell) else (n, k)).lookup y = some .cell ∨
    (names.map fun (n, k) => if (k == NameKind.free && env.scope.kind == .function && env.kindOf n == some .cell) then (n, NameKind.cell) else (n, k)).lookup y = some .free
  | [], _, h => by simp at h
  | (n, k0) :: r, y, h => by
    rw [List.map_cons]
    show List.lookup y ((if (k0 == NameKind.free && env.scope.kind == .function && env.kindOf n == some .cell) = true then (n, NameKind.cell) else (n, k0)) :: _) = _ ∨ List.lookup y ((if (k0 == NameKind.free && env.scope.kind == .function && env.kindOf n == some .cell) = true then (n, NameKind.cell) else (n, k0)) :: _) = _
    cases hx : y == n with
    | true =>
      rw [List.lookup_cons, hx] at h
      cases h
      by_cases hb : ((NameKind.free == NameKind.free) && env.scope.kind == .function && env.kindOf n == some .cell) = true
      · rw [if_pos hb, List.lookup_cons, hx]; exact .inl rfl
      · rw [if_neg hb, List.lookup_cons, hx]; exact .inr rfl
    | false =>
      rw [List.lookup_cons, hx] at h
      by_cases hb : (k0 == NameKind.free && env.scope.kind == .function && env.kindOf n == some .cell) = true
      · rw [if_pos hb, List.lookup_cons, hx]; exact relabel_free h
      · rw [if_neg hb, List.lookup_cons, hx]; exact relabel_free h
theorem comp_core {X : Cx} {elt tg iter : Expr} {ifs : List Expr} {scope : Scope} {pos ipos : Pos} {Nc : List Str} {ix : List (Option Nat)} {wi : TI} {g : TG} {tc : TT} {te : TE} {use : Option (Value → Sem Unit)} {Q' : Value → Shared → Prop} {R : List V → Hp → Prop}
    {pins : List (Addr × Obj)} {σ : St} {H : Hp} {s : Shared} (hc : X.calm = true)
    (hcell : ∀ y ∈ scope.names, y.2 ≠ .cell) (hkind : scope.kind = .function) (hnames : ∀ y ∈ scope.names, y.2 = .local → scope.names.lookup y.1 = some .local)
    (hfree : ∀ y ∈ scope.names, y.2 = .free → X.env.kindOf y.1 = some .cell ∨ X.env.kindOf y.1 = some .free) (hvis : ∀ y k, (relabel scope X.env).names.lookup y = some k → k = .cell ∨ k = .free → ∃ z ∈ scope.names, z.1 = y ∧ z.2 = .free)
    (hlen : ix.length = Nc.length) (hix : ∀ (i : Nat) (x : Str) (j : Nat), Nc[i]? = some x → ix[i]? = some (some j) → X.N[j]? = some x ∧ Vis X.env.scope x ∧ (X.env.kindOf x = some .local → False) ∧ ((relabel scope X.env).names.lookup x = some .cell ∨ (relabel scope X.env).names.lookup x = some .free))
    (hi : PI X tg iter wi) (hg : ∀ cl s H C fp, PG (cxComp X Nc scope cl s H C fp) tg g) (hifs : ∀ cl s H C fp, PTs (cxComp X Nc scope cl s H C fp) ifs tc) (he : ∀ cl s H C fp, PE (cxComp X Nc scope cl s H C fp) elt te)
    (hs : ∀ x, foldedSetIterable iter X.env x = pure x) (I : Inv X pins σ H s) (h : tCompR wi ix g tc te σ H R)
    (fin : ∀ (D C : Addr) (oC : Obj) (ys : List V) (H3 : Hp) (s4 : Shared), (∃ m, ∀ h' : Heap, h'.get? C = some oC → h'.Ns C m) → H3 D = none → (upd H3 D (.lst ys)) C = none → Young X pins C → Inv X (pins ++ [(C, oC)]) σ (upd H3 D (.lst ys)) s4 → R ys H3 →
      compPost (model X.prog X.w) X.A X.xe use Q' (.ref D) C (.ok .next) s4) :
    wpAny (model X.prog X.w) X.A (comprehension (.ListComp elt [⟨tg, iter, ifs, 0⟩] scope pos) scope X.env ipos (newList []) false (eval iter X.env) use) Q' X.xe s := by
  obtain ⟨cl, hclos, clX, clF⟩ := closure_of (scope := scope) (env := X.env) fun x hx hf => I.ok.has x.1 (hfree x hx hf)
  refine wpAny_comprehension_free (use := use) rfl hs hclos hkind hnames (thn (hi pins s σ H _ I h) fun v s1 h1 => thn h1 fun itv s2 h2 => ?_)
  obtain ⟨it, fp, tn, J, H1, rfl, I1, T, t0, hfp, W, ⟨m0, w0⟩, turn⟩ := h2
  refine wpAny_newObj_type (wpAny_newFunctionEnv hcell (by intro y hy; simp at hy) (fun h₁ hns₁ hsb₁ => ?_) hkind)
  dsimp only at hns₁ hsb₁ ⊢
  generalize hH2 : s2.heap.push { cls := .type "list", dict := none, data := .seq ([] : List Value).toArray } = H2 at hns₁ hsb₁ ⊢
  have hC : H2.objs.size = s2.heap.objs.size + 1 := by rw [← hH2, Heap.size_push]
  have hDC : s2.heap.objs.size ≠ H2.objs.size := by rw [hC]; exact Nat.ne_of_lt (Nat.lt_succ_self _)
  have old : ∀ b o, s2.heap.get? b = some o → h₁.get? b = some o := fun b o e => by
    have hb := Heap.lt_size e
    exact hsb₁.extBut b o (by rw [hC]; exact Nat.ne_of_lt (Nat.lt_succ_of_lt hb)) (Heap.get?_push_of_some _ (hH2 ▸ Heap.get?_push_of_some _ e))
  obtain ⟨e0, hacc⟩ : ∃ e0, h₁.get? s2.heap.objs.size = some (seqObj "list" ([] : List Value).toArray e0) := ⟨_, hsb₁.extBut _ _ hDC (Heap.get?_push_of_some _ (hH2 ▸ Heap.get?_push_size _ rfl))⟩
  generalize hCC : H2.objs.size = C at hns₁ hsb₁ hDC hC ⊢
  generalize hDD : s2.heap.objs.size = D at hDC hC hacc ⊢
  have hDle : s2.heap.objs.size ≤ D := Nat.le_of_eq hDD
  have hCle : s2.heap.objs.size ≤ C := by rw [hC, ← hDD]; exact Nat.le_succ _
  have yD := I1.young hDle
  have nD : H1 D = none := I1.hok.fresh hDle
  have nC : H1 C = none := I1.hok.fresh hCle
  have fpLt : ∀ b ∈ fp, b < s2.heap.objs.size := fun b hb => by
    obtain ⟨o, e, _⟩ := T.obj 0 _ t0 b hb
    exact Heap.lt_size e
  have fpD : D ∉ fp := fun hm => absurd (fpLt _ hm) (Nat.not_lt.mpr hDle)
  have fpC : C ∉ fp := fun hm => absurd (fpLt _ hm) (Nat.not_lt.mpr hCle)
  have frN : ∀ b ∈ frs X.stack, b < s2.heap.objs.size := fun b hb => by
    obtain ⟨_, o, ho, _⟩ := I1.stack.mem hb
    exact Heap.lt_size ho
  have frFp : ∀ b ∈ fp, b ∉ frs X.stack := fun b hb hm => by
    rcases List.mem_cons.mp (I1.stkSub b hm) with z | z
    · exact (hfp b hb).2.1 z
    · exact (hfp b hb).2.2.1 z
  -- the block's context
  have ok : (cxComp X Nc scope cl s2 H1 C fp).Ok :=
    ⟨I.ok.mod, (by show (relabel scope X.env).kind = _; exact hkind), I.ok.glob, I.ok.blt, hCle, (fun x y c e1 e2 => I.ok.inj x y c (clX x c e1) (clX y c e2)),
      (fun x hx => by
        obtain ⟨z, hz, rfl, hf⟩ : ∃ z ∈ scope.names, z.1 = x ∧ z.2 = .free := by
          rcases hx with hx | hx
          · exact hvis x _ hx (.inl rfl)
          · exact hvis x _ hx (.inr rfl)
        exact clF z hz hf), (fun x c z => nomatch z), I.ok.hd, I.ok.frames, .inl rfl,
      (fun b hb => ⟨fun z => fpC ((show b = C from z) ▸ hb), fun x c e => (hfp b hb).2.2.2.2.1 x c (clX x c e)⟩), (fun b o e => I1.bs b o e), Nat.le_trans I.ok.bsz I1.sz,
      (fun b o e hb => by
        rcases (hfp b hb).2.2.2.1 with z | z
        · exact I.ok.noex b o e z
        · have := Heap.lt_size (I.ok.bs b o e).1
          exact absurd this (Nat.not_lt.mpr z)),
      frFp, I1.stack, I1.stkFree⟩
  have start : ∀ tk, Inv (cxComp X Nc scope cl s2 H1 C fp) [(D, seqObj "list" ([] : List Value).toArray e0)] (seen ix σ) H1 { s2 with heap := h₁, toks := tk } := fun tk => by
    refine ⟨ok, rfl, I1.bare, Un.kept old, ⟨_, hns₁, fun i x v e1 e2 e3 => ?_⟩, fun x c e => ?_, nC, fun x c e => I1.freeC x c (clX x c e), fun p hp => ?_, I1.hok.kept old, by show (seen ix σ).length = Nc.length; unfold seen; rw [List.length_map]; exact hlen⟩
    · unfold seen at e2
      rw [List.getElem?_map] at e2
      cases ei : ix[i]? with
      | none => rw [ei] at e2; cases e2
      | some o =>
        rw [ei] at e2
        cases o with
        | none => cases e2
        | some j =>
          have e2' : (σ[j]?).getD none = some v := Option.some.inj e2
          have e2'' : σ[j]? = some (some v) := by
            cases ej : σ[j]? with
            | none => rw [ej] at e2'; cases e2'
            | some z => rw [ej] at e2'; exact congrArg some e2'
          obtain ⟨n1, n2, n3, n4⟩ := hix i x j e1 ei
          obtain ⟨m, hm, hl⟩ := I1.loc
          obtain ⟨u, ru, lk⟩ := hl j x v n1 e2'' n2
          refine ⟨u, ru, .inr ⟨n4, ?_⟩⟩
          rcases lk with ⟨k, _⟩ | ⟨_, c, ec, hc'⟩
          · exact (n3 k).elim
          · obtain ⟨z, hz, rfl, hf⟩ : ∃ z ∈ scope.names, z.1 = x ∧ z.2 = .free := by
              rcases n4 with hx | hx
              · exact hvis x _ hx (.inl rfl)
              · exact hvis x _ hx (.inr rfl)
            obtain ⟨c', ec'⟩ := clF z hz hf
            have : c' = c := Option.some.inj ((clX _ _ ec').symm.trans ec)
            subst this
            obtain ⟨o, ho, hd⟩ := hc'
            exact ⟨c', ec', o, old _ o ho, hd⟩
    · obtain ⟨v, o, ho, hd⟩ := I1.cell x c (clX x c e)
      exact ⟨v, o, old _ o ho, hd⟩
    · have hp' : p = (D, seqObj "list" ([] : List Value).toArray e0) := by simpa [cxComp] using hp
      subst hp'
      exact ⟨hacc, nD, hDC, fun hm => absurd (frN _ hm) (Nat.not_lt.mpr hDle), fun v z => by cases z⟩
  have stat : ∀ {ks : List Value} {e : Nat} {H' : Hp}, (∀ b ∈ fp, H' b = none) → ∀ b ∈ fp, FpOk (cxComp X Nc scope cl s2 H1 C fp) [(D, seqObj "list" ks.toArray e)] H' b := fun {ks e H'} hn b hb =>
    ⟨hn b hb, fun z => fpC ((show b = C from z) ▸ hb), frFp b hb, .inl hb, fun x c ec => (hfp b hb).2.2.2.2.1 x c (clX x c ec), fun p hp z => by
      have hp' : p = (D, seqObj "list" ks.toArray e) := by simpa [cxComp] using hp
      subst hp'
      exact fpD ((show b = D from z.symm) ▸ hb)⟩
  have loop : ∀ tk, codeAny (model X.prog X.w) X.A (.compLoop (.ListComp elt [⟨tg, iter, ifs, 0⟩] scope pos) 0 (.ref it) (.ref D) (compEnvC scope cl C X.env)) (compPost (model X.prog X.w) X.A X.xe use Q' (.ref D) C) { s2 with heap := h₁, toks := tk } := fun tk => by
    refine codeAny_loop rfl (fun n s' => ∃ i ys ks e σ' H', Inv (cxComp X Nc scope cl s2 H1 C fp) [(D, seqObj "list" ks.toArray e)] σ' H' s' ∧ Vals ys ks ∧ tn i s'.heap ∧ (∀ b ∈ fp, H' b = none) ∧ W i n ys σ' H') ?_ m0
      ⟨0, [], [], e0, _, H1, start tk, .nil, T.keep _ _ _ t0 fun b _ o e => old b o e, fun b hb => (hfp b hb).1, w0⟩
    rintro n s3 ⟨i, ys, ks, e, σ3, H3, I3, rv, st3, fr3, w3⟩
    show wpAny _ X.A ((compTurn (.ListComp elt [⟨tg, iter, ifs, 0⟩] scope pos) 0 (.ref it) (.ref D) (compEnvC scope cl C X.env)).onRaise (fun x => do noteFrame x (compEnvC scope cl C X.env); theTreesLotGoes x)) _ _ s3
    refine wpAny_noted ?_
    rw [compTurn_list]
    refine wpAny_bind (wpAny_standAt ?_)
    have lk := rv.length
    rcases turn i n ys σ3 H3 w3 with ⟨stop, sz, q⟩ | ⟨go, sz, N, hN, step⟩
    · refine wpAny_bind (thn (T.done (cxComp X Nc scope cl s2 H1 C fp) rfl rfl rfl hc i _ s3 σ3 H3 _ I3 (stat fr3) st3 stop) fun r s4 ⟨hr, I4⟩ => ?_)
      subst hr
      refine wpAny_pure ?_
      obtain ⟨m, ⟨oC, esC, epC, hoC, hdC, rC⟩, _⟩ := I4.loc
      have hoC : s4.heap.get? C = some oC := hoC
      have pD := I4.pin (D, seqObj "list" ks.toArray e) (List.mem_append_right _ List.mem_cons_self)
      have nC4 : H3 C = none := I4.free
      have yC := I1.young hCle
      have I5 : Inv X pins σ H3 s4 := I1.call' (ch := fp) I4.os (show Un (frs X.stack) fp H1 H3 s2.heap s4.heap from I4.base) I4.hok I4.bare fun b hb => ⟨(hfp b hb).2.2.2.1, (hfp b hb).2.1, (hfp b hb).2.2.2.2.1, (hfp b hb).2.2.2.2.2⟩
      have I6 := I5.track (p := D) (o := .lst ys) pD.2.1 (Heap.get?_none_of_le (Nat.le_trans I1.sz hDle)) yD.lo yD.ce yD.pi ⟨sz, ks, e, rv, pD.1⟩
      have nC6 : (upd H3 D (.lst ys)) C = none := by rw [upd_ne hDC.symm]; exact nC4
      have I7 : Inv X (pins ++ [(C, oC)]) σ (upd H3 D (.lst ys)) s4 := I6.pins_of fun p hp => by
        rcases List.mem_append.mp hp with hp | hp
        · exact I6.pin p (List.mem_append_right _ hp)
        · obtain rfl := List.mem_singleton.mp hp
          exact ⟨hoC, nC6, yC.lo, yC.fs, fun v z => by rw [hdC] at z; cases z⟩
      exact fin D C oC ys H3 s4 ⟨m, fun h' e' => ⟨oC, esC, epC, e', hdC, rC⟩⟩ pD.2.1 nC6 yC I7 q
    · refine wpAny_bind (thn (T.item (cxComp X Nc scope cl s2 H1 C fp) rfl rfl rfl hc i _ s3 σ3 H3 _ I3 (stat fr3) st3 go) fun r s4 ⟨u, hr, h4⟩ => ?_)
      subst hr
      refine wpAny_bind (thn h4 fun _ s5 ⟨x, H5, I5, r5, y5, st5, fr5⟩ => ?_)
      have I5' := I5.pinned (stat fr5) (T.obj _ _ st5)
      refine wpAny_bind (wpAny_mono (hg cl s2 H1 C fp _ s5 σ3 H5 x u _ I5' r5 (step x H5 y5)) (fun _ s6 ⟨σ6, H6, I6, q6⟩ => ?_) fun _ _ z => False.elim z)
      refine wpAny_bind (wpAny_mono (hifs cl s2 H1 C fp _ s6 σ6 H6 _ I6 q6) (fun ok s7 ⟨H7, I7, q7⟩ => ?_) fun _ _ z => False.elim z)
      have fin : ∀ {ks' : List Value} {e' : Nat} {ys' : List V} {σ8 : St} {H8 : Hp} {s8 : Shared}, Inv (cxComp X Nc scope cl s2 H1 C fp) ([(D, seqObj "list" ks'.toArray e')] ++ pinsAt fp s5.heap) σ8 H8 s8 → Vals ys' ks' → N ys' σ8 H8 →
          ∃ m, m < n ∧ ∃ i ys ks e σ' H', Inv (cxComp X Nc scope cl s2 H1 C fp) [(D, seqObj "list" ks.toArray e)] σ' H' s8 ∧ Vals ys ks ∧ tn i s8.heap ∧ (∀ b ∈ fp, H' b = none) ∧ W i m ys σ' H' := fun {ks' e' ys' σ8 H8 s8} I8 rv' n8 => by
        obtain ⟨m', hm, w8⟩ := hN _ σ8 H8 n8
        refine ⟨m', hm, i + 1, ys', ks', e', σ8, H8, I8.unpinned, rv', T.keep _ _ _ st5 fun b hb o eo => (I8.pin (b, o) (List.mem_append_right _ (List.mem_append_right _ (mem_pinsAt hb eo)))).1, fun b hb => ?_, w8⟩
        obtain ⟨o, eo, d⟩ := T.obj _ _ st5 b hb
        exact (I8.pin (b, o) (List.mem_append_right _ (List.mem_append_right _ (mem_pinsAt hb eo)))).2.1
      cases ok with
      | false =>
        have q7 := iteF_of q7
        exact wpAny_pure ⟨rfl, fin I7 rv q7⟩
      | true =>
        have q7 := iteT_of q7
        refine wpAny_bind (wpAny_bind (wpAny_mono (he cl s2 H1 C fp _ s7 σ6 H7 _ I7 q7) (fun y s8 ⟨vy, H8, I8, ry, n8⟩ => ?_) fun _ _ z => False.elim z))
        have pD := I8.pin (D, seqObj "list" ks.toArray e) (List.mem_append_right _ (List.mem_append_left _ List.mem_cons_self))
        refine wpAny_bind (wpAny_list_append_plain (hsz := by rw [List.size_toArray, ← lk]; exact sz) ⟨e, pD.1⟩ fun h9 hl9 hs9 => ?_)
        refine wpAny_pure (wpAny_pure ⟨rfl, ?_⟩)
        obtain ⟨e9, hl9⟩ := hl9
        have ea : ks.toArray.push y = (ks ++ [y]).toArray := by simp
        rw [ea] at hl9
        refine fin (ks' := ks ++ [y]) (e' := e9) (ys' := ys ++ [vy]) ?_ (Vals.append rv (.cons ry .nil)) n8
        have ne9 : ∀ p ∈ pinsAt fp s5.heap, p.1 ≠ D := fun p hp z => fpD (z ▸ (of_pinsAt hp).1)
        have yDb : Young (cxComp X Nc scope cl s2 H1 C fp) (pinsAt fp s5.heap) D := ⟨hDC, fun hm => absurd (frN _ hm) (Nat.not_lt.mpr hDle), .inr hDle, fun x c ec => yD.ce x c (clX x c ec), fun p hp => ne9 p (by simpa [cxComp] using hp)⟩
        have I8a : Inv (cxComp X Nc scope cl s2 H1 C fp) (pinsAt fp s5.heap) σ6 H8 s8 := I8.pins_of fun p hp => I8.pin p (List.mem_append_right _ (List.mem_append_right _ hp))
        have I8b := I8a.record yDb pD.2.1 hs9
        exact I8b.pins_of fun p hp => by
          rcases List.mem_append.mp hp with hp | hp
          · obtain rfl := List.mem_singleton.mp hp
            exact ⟨hl9, pD.2.1, yDb.lo, yDb.fs, fun v z => by cases z⟩
          · exact I8b.pin p (List.mem_append_right _ hp)
  exact codeAny_compStart_list (loop _) (T.self _ 0 _ _ _ (T.keep _ _ _ t0 fun b _ o e => old b o e) (loop _))
theorem compOk_all {X : Cx} {scope : Scope} {Nc : List Str} {ix : List (Option Nat)} (h : compOk scope X.env.scope X.N Nc ix = true) : (∀ y ∈ scope.names, y.2 ≠ .cell) ∧ scope.kind = .function ∧ (∀ y ∈ scope.names, y.2 = .local → scope.names.lookup y.1 = some .local) ∧
    (∀ y ∈ scope.names, y.2 = .free → X.env.kindOf y.1 = some .cell ∨ X.env.kindOf y.1 = some .free) ∧ ix.length = Nc.length ∧
    ∀ (i : Nat) (x : Str) (j : Nat), Nc[i]? = some x → ix[i]? = some (some j) → X.N[j]? = some x ∧ Vis X.env.scope x ∧ (X.env.kindOf x = some .local → False) ∧ ((relabel scope X.env).names.lookup x = some .cell ∨ (relabel scope X.env).names.lookup x = some .free) := by
  unfold compOk at h
  simp only [Bool.and_eq_true, beq_iff_eq, List.all_eq_true, Bool.or_eq_true, bne_iff_ne] at h
  obtain ⟨⟨⟨⟨⟨h1, h2⟩, h3⟩, h4⟩, h5⟩, h6⟩ := h
  refine ⟨h1, h2, fun y hy e => ?_, fun y hy e => ?_, h5, fun i x j e1 e2 => ?_⟩
  · rcases h3 y hy with z | z
    · exact absurd e z
    · exact z
  · rcases h4 y hy with (z | z) | z
    · exact absurd e z
    · exact .inl z
    · exact .inr z
  · have q := h6 i (List.mem_range.mpr (List.getElem?_eq_some_iff.mp e1).1)
    rw [e1, e2] at q
    simp only [Bool.and_eq_true, beq_iff_eq, Bool.or_eq_true] at q
    obtain ⟨⟨q1, q2⟩, q3⟩ := q
    refine ⟨q1, ?_, fun z => ?_, relabel_free q3⟩
    · rcases q2 with z | z
      · exact .inr (.inl z)
      · exact .inr (.inr z)
    · have z' : X.env.scope.names.lookup x = some .local := z
      rcases q2 with y | y
      · rw [y] at z'; cases z'
      · rw [y] at z'; cases z'
theorem pe_comp {X : Cx} {elt tg iter : Expr} {ifs : List Expr} {scope : Scope} {pos : Pos} {Nc : List Str} {ix : List (Option Nat)} {wi : TI} {g : TG} {tc : TT} {te : TE} (hc : X.calm = true) (hok : compOk scope X.env.scope X.N Nc ix = true)
    (hi : PI X tg iter wi) (hg : ∀ cl s H C fp, PG (cxComp X Nc scope cl s H C fp) tg g) (hifs : ∀ cl s H C fp, PTs (cxComp X Nc scope cl s H C fp) ifs tc) (he : ∀ cl s H C fp, PE (cxComp X Nc scope cl s H C fp) elt te)
    (hs : ∀ x, foldedSetIterable iter X.env x = pure x := by intro _; rfl) : PE X (.ListComp elt [⟨tg, iter, ifs, 0⟩] scope pos) (tComp wi ix g tc te) := by
  intro pins s σ H Q I h
  obtain ⟨h1, h2, h3, h4, h5, h6⟩ := compOk_all hok
  rw [eval_ListComp]
  refine comp_core (Q' := EP X pins σ Q) hc h1 h2 h3 h4 (fun y k e hk => relabel_of h1 e hk) h5 h6 hi hg hifs he hs I h fun D C oC ys H3 s4 hN nD nC yC I4 q => ?_
  have pC := I4.pin (C, oC) (List.mem_append_right _ (List.mem_append_right _ List.mem_cons_self))
  obtain ⟨m, hm⟩ := hN
  exact ⟨m, hm _ pC.1, fun h' hsb => ⟨.ref D, _, I4.unpinned.record yC nC hsb, rfl, q D nD⟩⟩
def sComp (i : Nat) (wi : TI) (ix : List (Option Nat)) (g : TG) (tc : TT) (te : TE) : TS := fun D σ H => tCompR wi ix g tc te σ H fun ys H' => ∀ l, H' l = none → D.nx (σ.set i (some (.ref l))) (upd H' l (.lst ys))
theorem ps_comp {X : Cx} {i : Nat} {y : Str} {elt tg iter : Expr} {ifs : List Expr} {scope : Scope} {pos spos py : Pos} {Nc : List Str} {ix : List (Option Nat)} {wi : TI} {g : TG} {tc : TT} {te : TE} (hN : X.N.Nodup) (hi' : X.N[i]? = some y) (hx : Loc X.env.scope y) (hc : X.calm = true) (hok : compOk scope X.env.scope X.N Nc ix = true)
    (hi : PI X tg iter wi) (hg : ∀ cl s H C fp, PG (cxComp X Nc scope cl s H C fp) tg g) (hifs : ∀ cl s H C fp, PTs (cxComp X Nc scope cl s H C fp) ifs tc) (he : ∀ cl s H C fp, PE (cxComp X Nc scope cl s H C fp) elt te)
    (hs : ∀ x, foldedSetIterable iter X.env x = pure x := by intro _; rfl) (hsw : swapsWith (.ListComp elt [⟨tg, iter, ifs, 0⟩] scope pos) (some (.Name y py)) spos.line X.env = pure true := by rfl)
    (hf : X.fn y = true ∨ X.env.scope.names.lookup y = some .local := by first | exact .inl rfl | exact .inr rfl | assumption) : PS X (.Assign [.Name y py] (.ListComp elt [⟨tg, iter, ifs, 0⟩] scope pos) spos) (sComp i wi ix g tc te) := by
  intro pins s σ H D I h
  obtain ⟨h1, h2, h3, h4, h5, h6⟩ := compOk_all hok
  rw [exec_Assign_Name_used _ _ _ _ hsw]
  refine wpAny_bind (wpAny_standAt (wpAny_bind ?_))
  show wpAny _ X.A (do let _ ← comprehension (.ListComp elt [⟨tg, iter, ifs, 0⟩] scope pos) scope X.env _ (newList []) false (eval iter X.env) (some (assign (.Name y py) X.env))) _ _ s
  refine wpAny_bind (wpAny_mono (comp_core (Q' := fun _ s' => SP X pins D .next s') hc h1 h2 h3 h4 (fun y k e hk => relabel_of h1 e hk) h5 h6 hi hg hifs he hs I h fun Da C oC ys H3 s4 hN' nD nC yC I4 q => ?_)
    (fun _ s' hq => wpAny_pure (wpAny_pure hq)) fun _ _ e => e)
  show wpAny _ _ (assign (.Name y py) X.env (.ref Da)) _ _ s4
  refine thn (pg_name (i := i) hN hi' hx hf _ s4 σ _ (.ref Da) (.ref Da) (fun σ' H' => σ' = σ.set i (some (.ref Da)) ∧ H' = upd H3 Da (.lst ys)) I4 rfl ⟨rfl, rfl⟩) fun _ s5 ⟨σ5, H5, I5, e1, e2⟩ => ?_
  subst e1 e2
  have pC := I5.pin (C, oC) (List.mem_append_right _ (List.mem_append_right _ List.mem_cons_self))
  obtain ⟨m, hm⟩ := hN'
  exact ⟨m, hm _ pC.1, fun h' hsb => ⟨_, _, I5.unpinned.record yC nC hsb, q Da nD⟩⟩
end L2
set_option Elab.async false
set_option linter.all false
set_option maxRecDepth 100000
namespace L2
open PySem PySem.Spec PyProof.Rows
section
variable {X : Cx}
theorem lst_walk {pins : List (Addr × Obj)} {σ : St} {H : Hp} {s : Shared} {a : Addr} {its : List Value} (I : Inv X pins σ H s) (tp : s.heap.IsList a its.toArray) (hc : X.calm = true) {Q : Value → Shared → Prop}
    (q : ∀ s2 : Shared, s2 = { s with heap := s.heap.push { cls := .type "list_iterator", data := .fields #[.ref a, .int 0 0] } } → Walks X.prog X.w X.A.in1 s.heap.objs.size [s.heap.objs.size, a] [s.heap.objs.size] its.toArray.size (fun i v => its.toArray[i]? = some v) (fun i h => h.IsListIter s.heap.objs.size a i ∧ h.IsList a its.toArray) →
      (s2.heap.IsListIter s.heap.objs.size a 0 ∧ s2.heap.IsList a its.toArray) → (∀ b ∈ [s.heap.objs.size, a], b < s2.heap.objs.size) → Q (.ref s.heap.objs.size) s2) : wpAny (model X.prog X.w) X.A.in1 (pyIter (.ref a)) Q X.xe s := by
  have hlt : a < s.heap.objs.size := by obtain ⟨_, e, _⟩ := tp; exact Heap.lt_size e
  refine wpAny_pyIter_list tp (q _ rfl (Walks.list (by exact I.ok.hd hc) _ _ (Nat.ne_of_lt hlt) _) ⟨⟨_, Heap.get?_push_size _ rfl, rfl, rfl⟩, ?_⟩ fun b hb => ?_)
  · obtain ⟨o, e, r⟩ := tp
    exact ⟨o, Heap.get?_push_of_some _ e, r⟩
  · show b < (s.heap.push _).objs.size
    rw [Heap.size_push]
    rcases List.mem_cons.mp hb with rfl | hb
    · exact Nat.lt_succ_self _
    · rw [List.mem_singleton.mp hb]
      exact Nat.lt_succ_of_lt hlt
theorem bools_of {bs : List Bool} {its : List Value} (r : Vals (bs.map V.bl) its) : ∀ (i : Nat) (v : Value), its.toArray[i]? = some v → v = Value.bool (bs.getD i false) := by
  intro i v e
  rw [List.getElem?_toArray] at e
  have hl := r.length
  have hi : i < its.length := (List.getElem?_eq_some_iff.mp e).1
  rw [List.length_map] at hl
  have hx : (bs.map V.bl)[i]? = some (.bl (bs.getD i false)) := by
    rw [List.getElem?_map, List.getElem?_eq_getElem (by omega)]
    simp [List.getD, show i < bs.length by omega]
  obtain ⟨u, hu, ru⟩ := r.get hx
  rw [e] at hu
  cases hu
  exact ru
theorem all_range (bs : List Bool) : (List.range bs.length).all (fun i => bs.getD i false) = bs.all id := by
  rw [Bool.eq_iff_iff, List.all_eq_true, List.all_eq_true]
  constructor
  · intro h b hb
    obtain ⟨i, hi, rfl⟩ := List.mem_iff_getElem.mp hb
    have := h i (List.mem_range.mpr hi)
    rwa [getD_at hi] at this
  · intro h i hi
    have hi := List.mem_range.mp hi
    rw [getD_at hi]
    exact h _ (List.getElem_mem hi)
theorem any_range (bs : List Bool) : (List.range bs.length).any (fun i => bs.getD i false) = bs.any id := by
  rw [Bool.eq_iff_iff, List.any_eq_true, List.any_eq_true]
  constructor
  · rintro ⟨i, hi, h⟩
    have hi := List.mem_range.mp hi
    rw [getD_at hi] at h
    exact ⟨_, List.getElem_mem hi, h⟩
  · rintro ⟨b, hb, h⟩
    obtain ⟨i, hi, rfl⟩ := List.mem_iff_getElem.mp hb
    exact ⟨i, List.mem_range.mpr hi, by rw [getD_at hi]; exact h⟩
theorem call_allL (hc : X.calm = true) : CallR X (.builtin "all") (fun xs H Q => ∃ (a : Addr) (bs : List Bool), xs = [.ref a] ∧ SqL X.K H a (bs.map V.bl) ∧ Q (.bl (bs.all id)) H) := by
  intro pins s σ H xs us Q I r h
  obtain ⟨a, bs, rfl, hq, q⟩ := h
  obtain ⟨u, rfl, ru⟩ := vals1 r
  cases ru
  obtain ⟨its, rv, tp, hz⟩ := I.list hq
  have hl := rv.length
  rw [List.length_map] at hl
  refine call_all_walk (lst_walk I tp.isList hc fun s2 e W st hfp => ?_)
  subst e
  refine ⟨_, _, _, _, _, _, fun i => bs.getD i false, rfl, W, st, fun i v A' Q' E' hP hQ => ?_, fun h' tk hk => ?_⟩
  · have := bools_of rv i v hP
    subst this
    exact wpAny_truthy_bool hQ
  · refine ⟨.bl _, H, I.kept (t' := tk) fun b o e => hk b o (fun m => ?_) (Heap.get?_push_of_some _ e), ?_, q⟩
    · have := Heap.lt_size e
      rw [List.mem_singleton.mp m] at this
      exact Nat.lt_irrefl _ this
    · show Value.bool _ = Value.bool _
      rw [List.size_toArray, ← hl, all_range]
theorem call_anyL (hc : X.calm = true) : CallR X (.builtin "any") (fun xs H Q => ∃ (a : Addr) (bs : List Bool), xs = [.ref a] ∧ SqL X.K H a (bs.map V.bl) ∧ Q (.bl (bs.any id)) H) := by
  intro pins s σ H xs us Q I r h
  obtain ⟨a, bs, rfl, hq, q⟩ := h
  obtain ⟨u, rfl, ru⟩ := vals1 r
  cases ru
  obtain ⟨its, rv, tp, hz⟩ := I.list hq
  have hl := rv.length
  rw [List.length_map] at hl
  refine call_any_walk (lst_walk I tp.isList hc fun s2 e W st hfp => ?_)
  subst e
  refine ⟨_, _, _, _, _, _, fun i => bs.getD i false, rfl, W, st, fun i v A' Q' E' hP hQ => ?_, fun h' tk hk => ?_⟩
  · have := bools_of rv i v hP
    subst this
    exact wpAny_truthy_bool hQ
  · refine ⟨.bl _, H, I.kept (t' := tk) fun b o e => hk b o (fun m => ?_) (Heap.get?_push_of_some _ e), ?_, q⟩
    · have := Heap.lt_size e
      rw [List.mem_singleton.mp m] at this
      exact Nat.lt_irrefl _ this
    · show Value.bool _ = Value.bool _
      rw [List.size_toArray, ← hl, any_range]
theorem call_minL (hc : X.calm = true) : CallR X (.builtin "min") (fun xs H Q => ∃ (a : Addr) (ns : List Int), xs = [.ref a] ∧ SqL X.K H a (ns.map V.int) ∧ 0 < ns.length ∧ ∀ M, M ∈ ns → (∀ z ∈ ns, M ≤ z) → Q (.int M) H) := by
  intro pins s σ H xs us Q I r h
  obtain ⟨a, ns, rfl, hq, hn, q⟩ := h
  obtain ⟨u, rfl, ru⟩ := vals1 r
  cases ru
  obtain ⟨its, rv, tp, hz⟩ := I.list hq
  have hl := rv.length
  rw [List.length_map] at hl
  refine call_min_walk (lst_walk I tp.isList hc fun s2 e W st hfp => ?_)
  subst e
  refine ⟨_, _, _, _, _, _, _, rfl, W, st, hfp, by simp; omega, CmpOf.ints_lt (fun i => ns.getD i 0) (nums_of rv), fun v h' tk hP hk => ?_⟩
  obtain ⟨t, rfl⟩ := nums_of rv _ _ hP
  obtain ⟨b1, b2⟩ := argBest_lt (fun i => ns.getD i 0) (its.toArray.size - 1)
  rw [List.size_toArray] at b1 b2
  refine ⟨.int _, H, I.kept (t' := tk) fun b o e => hk b o (fun m => ?_) (Heap.get?_push_of_some _ e), ⟨t, rfl⟩, q _ (best_mem ?_) fun z hz => ?_⟩
  · have := Heap.lt_size e
    rw [List.mem_singleton.mp m] at this
    exact Nat.lt_irrefl _ this
  · rw [List.size_toArray]; omega
  · obtain ⟨j, hj, e⟩ := mem_at hz
    rw [← e, List.size_toArray]
    exact b2 j (by omega)
theorem call_maxL (hc : X.calm = true) : CallR X (.builtin "max") (fun xs H Q => ∃ (a : Addr) (ns : List Int), xs = [.ref a] ∧ SqL X.K H a (ns.map V.int) ∧ 0 < ns.length ∧ ∀ M, M ∈ ns → (∀ z ∈ ns, z ≤ M) → Q (.int M) H) := by
  intro pins s σ H xs us Q I r h
  obtain ⟨a, ns, rfl, hq, hn, q⟩ := h
  obtain ⟨u, rfl, ru⟩ := vals1 r
  cases ru
  obtain ⟨its, rv, tp, hz⟩ := I.list hq
  have hl := rv.length
  rw [List.length_map] at hl
  refine call_max_walk (lst_walk I tp.isList hc fun s2 e W st hfp => ?_)
  subst e
  refine ⟨_, _, _, _, _, _, _, rfl, W, st, hfp, by simp; omega, CmpOf.ints_gt (fun i => ns.getD i 0) (nums_of rv), fun v h' tk hP hk => ?_⟩
  obtain ⟨t, rfl⟩ := nums_of rv _ _ hP
  obtain ⟨b1, b2⟩ := argBest_gt (fun i => ns.getD i 0) (its.toArray.size - 1)
  rw [List.size_toArray] at b1 b2
  refine ⟨.int _, H, I.kept (t' := tk) fun b o e => hk b o (fun m => ?_) (Heap.get?_push_of_some _ e), ⟨t, rfl⟩, q _ (best_mem ?_) fun z hz => ?_⟩
  · have := Heap.lt_size e
    rw [List.mem_singleton.mp m] at this
    exact Nat.lt_irrefl _ this
  · rw [List.size_toArray]; omega
  · obtain ⟨j, hj, e⟩ := mem_at hz
    rw [← e, List.size_toArray]
    exact b2 j (by omega)
end
end L2
set_option Elab.async false
set_option linter.all false
set_option maxRecDepth 100000
namespace L2
open PySem PySem.Spec PyProof.Rows
inductive EqR (K : PySem.W.Frag) (H : Hp) : Nat → V → V → Bool → Prop where
  | flat {n : Nat} {x y : V} (fx : flatV x = true) (fy : flatV y = true) : EqR K H n x y (eqV x y)
  | tups {n : Nat} {a b : Addr} {xs ys : List V} {e : Nat → Bool} (ha : SqT K H a xs) (hb : SqT K H b ys) (he : ∀ j, j < xs.length → j < ys.length → EqR K H n (xs.getD j .non) (ys.getD j .non) (e j)) :
      EqR K H (n + 1) (.ref a) (.ref b) ((List.range (min xs.length ys.length)).all e && xs.length == ys.length)
  | lsts {n : Nat} {a b : Addr} {xs ys : List V} {e : Nat → Bool} (ha : SqL K H a xs) (hb : SqL K H b ys) (hl : xs.length = ys.length) (he : ∀ j, j < xs.length → EqR K H n (xs.getD j .non) (ys.getD j .non) (e j)) :
      EqR K H (n + 1) (.ref a) (.ref b) ((List.range xs.length).all e)
  | lens {n : Nat} {a b : Addr} {xs ys : List V} (ha : SqL K H a xs) (hb : SqL K H b ys) (hl : xs.length ≠ ys.length) : EqR K H (n + 1) (.ref a) (.ref b) false
theorem eqV_refl : ∀ {x : V}, flatV x = true → eqV x x = true
  | .non, _ => rfl
  | .bl b, _ => beq_self_eq_true b
  | .int i, _ => beq_self_eq_true i
  | .str s, _ => beq_self_eq_true s
section
variable {X : Cx} {pins : List (Addr × Obj)} {σ : St} {H : Hp} {s : Shared}
theorem EqR.refl (I : Inv X pins σ H s) {n : Nat} {x y : V} {b : Bool} (h : EqR X.K H n x y b) : x = y → b = true := by
  induction h with
  | flat fx fy => intro e; subst e; exact eqV_refl fx
  | @tups n a b xs ys e ha hb he ih =>
    intro z
    cases z
    have := I.tuple_inj ha hb
    subst this
    rw [beq_self_eq_true, Bool.and_true, List.all_eq_true]
    intro j hj
    have hj := List.mem_range.mp hj
    exact ih j (by omega) (by omega) rfl
  | @lsts n a b xs ys e ha hb hl he ih =>
    intro z
    cases z
    have := I.list_inj ha hb
    subst this
    rw [List.all_eq_true]
    intro j hj
    exact ih j (List.mem_range.mp hj) rfl
  | @lens n a b xs ys ha hb hl =>
    intro z
    cases z
    exact absurd (by rw [I.list_inj ha hb]) hl
theorem EqR.at (I : Inv X pins σ H s) {n : Nat} {x y : V} {b : Bool} (h : EqR X.K H n x y b) : ∀ {A : Around} {u v : Value}, RelV x u → RelV y v → A.units + n < cLine → SeqAt.EqAt A s u v b := by
  induction h with
  | flat fx fy => intro A u v ru rv _; exact eqAt_V ru rv fx fy
  | @tups n a b xs ys e ha hb he ih =>
    intro A u v ru rv hu
    cases ru
    cases rv
    by_cases hab : a = b
    · have := EqR.refl I (EqR.tups (n := n) ha hb he) (by rw [hab])
      rw [this, hab]
      exact SeqAt.EqAt.same _
    · obtain ⟨i1, r1, p1, z1⟩ := I.tuple ha
      obtain ⟨i2, r2, p2, z2⟩ := I.tuple hb
      have l1 := r1.length
      have l2 := r2.length
      have := SeqAt.RcAt.tuples (A := A) (e := e) (show s.heap.IsTuple a i1.toArray from p1) (show s.heap.IsTuple b i2.toArray from p2) (by omega) fun j h1 h2 => by
        have h1' : j < i1.length := by simpa using h1
        have h2' : j < i2.length := by simpa using h2
        have q := ih j (by omega) (by omega) (A := A.in1) (val_at r1 h1') (val_at r2 h2') (by show A.units + 1 + n < cLine; omega)
        simpa using q
      rw [List.size_toArray, List.size_toArray, ← l1, ← l2] at this
      exact SeqAt.EqAt.of_refs hab this
  | @lsts n a b xs ys e ha hb hl he ih =>
    intro A u v ru rv hu
    cases ru
    cases rv
    by_cases hab : a = b
    · have := EqR.refl I (EqR.lsts (n := n) ha hb hl he) (by rw [hab])
      rw [this, hab]
      exact SeqAt.EqAt.same _
    · obtain ⟨i1, r1, p1, z1⟩ := I.list ha
      obtain ⟨i2, r2, p2, z2⟩ := I.list hb
      have l1 := r1.length
      have l2 := r2.length
      have := SeqAt.RcAt.lists (A := A) (e := e) p1.isList p2.isList (by simp; omega) (by omega) fun j h1 h2 => by
        have h1' : j < i1.length := by simpa using h1
        have h2' : j < i2.length := by simpa using h2
        have q := ih j (by omega) (A := A.in1) (val_at r1 h1') (val_at r2 h2') (by show A.units + 1 + n < cLine; omega)
        simpa using q
      rw [List.size_toArray, ← l1] at this
      exact SeqAt.EqAt.of_refs hab this
  | @lens n a b xs ys ha hb hl =>
    intro A u v ru rv hu
    cases ru
    cases rv
    obtain ⟨i1, r1, p1, z1⟩ := I.list ha
    obtain ⟨i2, r2, p2, z2⟩ := I.list hb
    have l1 := r1.length
    have l2 := r2.length
    have hab : a ≠ b := fun z => by subst z; exact hl (by rw [I.list_inj ha hb])
    exact SeqAt.EqAt.of_refs hab (SeqAt.RcAt.lists_lengths p1.isList p2.isList (by simp; omega) (by omega))
def rEqR (K : PySem.W.Frag) (neg : Bool) : R2 := fun x y H Q => ∃ (a c : Addr) (n : Nat) (b : Bool), x = .ref a ∧ y = .ref c ∧ EqR K H n x y b ∧ n ≤ 50 ∧ Q (.bl (if neg then !b else b)) H
theorem op_eqR (hu : X.A.units + 64 < cLine) : OpR X (compareOp .Eq) (rEqR X.K false) := by
  intro pins s σ H x y v u Q I rx ry h
  obtain ⟨a, c, n, b, rfl, rfl, e, hn, q⟩ := h
  cases rx
  cases ry
  have fin : ∀ {k : Bool}, k = b → EP X pins σ Q (.bool k) s := fun z => ⟨.bl b, H, I, by rw [z]; rfl, q⟩
  cases e with
  | flat fx fy => exact absurd (show false = true from fx) Bool.false_ne_true
  | @tups n _ _ xs ys e ha hb he =>
    obtain ⟨i1, r1, p1, z1⟩ := I.tuple ha
    obtain ⟨i2, r2, p2, z2⟩ := I.tuple hb
    have l1 := r1.length
    have l2 := r2.length
    refine SeqAt.eq_tupleAt (e := e) (show s.heap.IsTuple a i1.toArray from p1) (show s.heap.IsTuple c i2.toArray from p2) (by omega) (fun j h1 h2 => ?_) (fin ?_)
    · have h1' : j < i1.length := by simpa using h1
      have h2' : j < i2.length := by simpa using h2
      have q := (he j (by omega) (by omega)).at I (A := X.A.in1) (val_at r1 h1') (val_at r2 h2') (by show X.A.units + 1 + n < cLine; omega)
      simpa using q
    · rw [List.size_toArray, List.size_toArray, ← l1, ← l2]
  | @lsts n _ _ xs ys e ha hb hl he =>
    obtain ⟨i1, r1, p1, z1⟩ := I.list ha
    obtain ⟨i2, r2, p2, z2⟩ := I.list hb
    have l1 := r1.length
    have l2 := r2.length
    refine SeqAt.eq_listAt (e := e) p1.isList p2.isList (by simp; omega) (by omega) (fun j h1 h2 => ?_) (fin ?_)
    · have h1' : j < i1.length := by simpa using h1
      have h2' : j < i2.length := by simpa using h2
      have q := (he j (by omega)).at I (A := X.A.in1) (val_at r1 h1') (val_at r2 h2') (by show X.A.units + 1 + n < cLine; omega)
      simpa using q
    · rw [List.size_toArray, ← l1]
  | @lens n _ _ xs ys ha hb hl =>
    obtain ⟨i1, r1, p1, z1⟩ := I.list ha
    obtain ⟨i2, r2, p2, z2⟩ := I.list hb
    have l1 := r1.length
    have l2 := r2.length
    exact SeqAt.eq_list_lengthsAt p1.isList p2.isList (by simp; omega) (by omega) (fin rfl)
end
end L2
set_option Elab.async false
set_option linter.all false
set_option maxRecDepth 100000
namespace L2
open PySem PySem.Spec PyProof.Rows
def ItE (K : PySem.W.Frag) (a : Addr) : It :=
  ⟨fun i H => ∃ xs x, SqL K H a xs ∧ xs[i]? = some x, fun i H x H' => ∃ p y, H p = none ∧ x = .ref p ∧ H' = upd H p (.tup [.int i, y]) ∧ ∀ xs, SqL K H a xs → xs[i]? = some y, fun i H => ∃ xs, SqL K H a xs ∧ xs.length ≤ i⟩
theorem turn_enumL {P : Program} {w : World} {K : PySem.W.Frag} {elts : List Expr} {kx : Nat} {px : Pos} (a e it : Addr) (hei : e ≠ it) :
    Turn P w K (.Tuple elts kx px) (ItE K a) [e, it] e (fun i h => (∃ old, IsEnum h e it (i : Nat) old) ∧ h.IsListIter it a i) where
  mem := by simp
  obj := fun i h st b hb => by
    obtain ⟨⟨old, he⟩, ⟨o, ho, c, d⟩⟩ := st
    rcases List.mem_cons.mp hb with rfl | hb
    · exact ⟨_, he, fun v z => by
        have z' : Data.fields _ = Data.cell v := z
        cases z'⟩
    · obtain rfl := List.mem_singleton.mp hb
      exact ⟨o, ho, fun v z => by rw [d] at z; cases z⟩
  keep := fun i h h' st k => ⟨let ⟨old, he⟩ := st.1; ⟨old, k e (by simp) _ he⟩, st.2.at fun o q => k it (by simp) o q⟩
  item := by
    intro X hP hw hK hc i pins s σ H E I hf st hg
    subst hP hw hK
    obtain ⟨⟨old, he⟩, hit⟩ := st
    obtain ⟨xs, x, hq, hx⟩ := hg
    obtain ⟨its, rv, tp, hz⟩ := I.list hq
    obtain ⟨u, hu, ru⟩ := rv.get hx
    have hil : i < xs.length := (List.getElem?_eq_some_iff.mp hx).1
    have tp' : s.heap.IsList a its.toArray := tp.isList
    have nai : a ≠ it := fun z => by
      obtain ⟨o, g1, g2, _⟩ := tp'
      obtain ⟨o', g1', g2', _⟩ := hit
      rw [z, g1'] at g1
      cases g1
      rw [g2'] at g2
      exact absurd g2 (by decide)
    have nae : a ≠ e := fun z => by
      obtain ⟨o, g1, g2, _⟩ := tp'
      rw [z, he] at g1
      cases g1
      have g3 : Value.type "enumerate" = Value.type "list" := g2
      exact absurd g3 (by decide)
    have D := Draws.list (prog := X.prog) (w := X.w) (A := X.A.in1) (by exact I.ok.hd hc) it a nai its.toArray
    refine wpAny_pyNext_enum_itemD D he ⟨hit, tp'⟩ (by rw [List.size_toArray, ← rv.length]; exact hil) hei (by simp [hei, nae.symm]) fun y h' tk hP ho hs' hT hsz hk => ?_
    have ey : y = u := by
      rw [List.getElem?_toArray, hu] at hP
      exact (Option.some.inj hP).symm
    subst ey
    refine ⟨_, rfl, wpAny_letOwnedTupleGo_enum ho fun h2 he2 hs2 => ?_⟩
    have ne1 : s.heap.objs.size ≠ e := Nat.ne_of_gt (Heap.lt_size he)
    have k2 : ∀ b o, b ≠ e → b ≠ it → s.heap.get? b = some o → h2.get? b = some o := fun b o n1 n2 q => (hs2.2 b n1).trans (hk b o n1 n2 q)
    have I1 : Inv X pins σ H { s with heap := h2, toks := tk + 1 } := I.turned2 k2 (hf e (by simp)) (hf it (by simp))
    have hn : H s.heap.objs.size = none := I.hok.fresh (Nat.le_refl _)
    have FP := I.fpOk (b := s.heap.objs.size) (Nat.le_refl _) hn
    have hT2 : h2.get? s.heap.objs.size = some { cls := .type "tuple", data := .seq #[.int i tk, y] } := (hs2.2 _ ne1).trans hT
    have I2 := I1.track (p := s.heap.objs.size) (o := .tup [.int i, x]) hn (Heap.get?_none_of_le I.sz) FP.2.1 FP.2.2.2.2.1 FP.2.2.2.2.2
      ⟨by show 2 ≤ sizeLine; decide, [.int i tk, y], .cons ⟨tk, rfl⟩ (.cons ru .nil), ⟨_, hT2, rfl, _, rfl⟩⟩
    refine ⟨.ref s.heap.objs.size, _, I2, rfl, ⟨_, x, hn, rfl, rfl, fun ys hy => ?_⟩, ⟨⟨y, by simpa using he2⟩, hs'.1.at fun o q => (hs2.2 it hei.symm).trans q⟩, fun b hb => ?_⟩
    · rw [I.list_inj hy hq]; exact hx
    · have hb2 : b ≠ s.heap.objs.size := by
        rcases List.mem_cons.mp hb with rfl | hb
        · exact ne1.symm
        · obtain rfl := List.mem_singleton.mp hb
          obtain ⟨o, g, _⟩ := hit
          exact Nat.ne_of_lt (Heap.lt_size g)
      rw [upd_ne hb2]
      exact (hf b hb).1
  done := by
    intro X hP hw hK hc i pins s σ H E I hf st hg
    subst hP hw hK
    obtain ⟨⟨old, he⟩, hit⟩ := st
    obtain ⟨xs, hq, hx⟩ := hg
    obtain ⟨its, rv, tp, hz⟩ := I.list hq
    have tp' : s.heap.IsList a its.toArray := tp.isList
    have nai : a ≠ it := fun z => by
      obtain ⟨o, g1, g2, _⟩ := tp'
      obtain ⟨o', g1', g2', _⟩ := hit
      rw [z, g1'] at g1
      cases g1
      rw [g2'] at g2
      exact absurd g2 (by decide)
    have hl := rv.length
    have hT : s.TypeIs (.ref e) "enumerate" := ⟨_, he, rfl⟩
    obtain ⟨f0, f1, f2, f3, f4, f5⟩ := hf it (by simp)
    unfold pyNext
    refine wpAny_bind (wpAny_attempt (wpAny_callSpecial?_slot (name := Str.ofString "__next__") hT F.slot_enumerate_next ?_))
    refine wpAny_call_entry F.slot_enumerate_next hT F.entry_enumerate_next ?_ (F.args_enumerate_next_1 _)
    show wpAny _ _ (field (.ref e) 2 >>= _) _ _ _
    refine wpAny_bind (wpAny_field he rfl (x := .ref it) rfl ?_)
    refine wpAny_bind (wpAny_nextOf_list_end (by exact I.ok.hd hc) hit tp' (by simp; omega) fun h' x ext hex => ?_)
    obtain ⟨o, g1, g2⟩ := hex
    refine wpAny_bind (wpAny_isInstance (T := "StopIteration") (b := true) ⟨o, g1, g2⟩ isSubtype_stop ?_)
    exact wpAny_pure ⟨rfl, I.turned (t' := s.toks) (fun b ob nb q => ext b ob nb q) f0 f1 f3 f4 f5⟩
  self := fun _ _ _ _ _ st h => let ⟨⟨_, he⟩, _⟩ := st; wpAny_pyIter_enum he h
def iEnL (K : PySem.W.Frag) (ta : TA) : TI := fun σ H R => ta σ H fun vs H1 => ∃ a, vs = [.ref a] ∧ (∃ xs, SqL K H1 a xs) ∧ R (ItE K a) H1
theorem pi_enumL {X : Cx} {l : Expr} {ta : TA} {elts : List Expr} {kx : Nat} {px p pos : Pos} (hg : Gl X "enumerate") (hm : X.mg "enumerate" = none) (ha : PA X [l] ta) (hs : starEach [l] X.env = [(false, eval l X.env)] := by rfl) :
    PI X (.Tuple elts kx px) (.Call (.Name "enumerate" p) [l] [] pos) (iEnL X.K ta) := by
  intro pins s σ H R I h
  refine Call_ (ld_blt I hg hm boot_enumerate (PyProof.Rows.callWith_type1 (thn (ha pos pins s σ H _ I h) fun us s1 ⟨vs, H1, I1, r1, q1⟩ => ?_) hs rfl))
  obtain ⟨a, e, ⟨xs, hq⟩, q⟩ := q1
  subst e
  cases r1 with
  | cons r rr =>
    cases rr
    cases r
    obtain ⟨its, rv, tp, hz⟩ := I1.list hq
    refine call_enumerate_list tp.isList fun h' he hit hsz hk => ?_
    refine wpAny_pyIter_enum he ?_
    refine ⟨s1.heap.objs.size + 1, [s1.heap.objs.size + 1, s1.heap.objs.size], _, _, H1, rfl, I1.kept (t' := s1.toks) hk, turn_enumL a _ _ (Nat.succ_ne_self _), ⟨⟨_, he⟩, hit⟩, fun b hb => ?_, q⟩
    rcases List.mem_cons.mp hb with rfl | hb
    · exact I1.fpOk (Nat.le_succ _) (I1.hok.fresh (Nat.le_succ _))
    · obtain rfl := List.mem_singleton.mp hb
      exact I1.fpOk (Nat.le_refl _) (I1.hok.fresh (Nat.le_refl _))
theorem for_enumL {K : PySem.W.Frag} {a : Addr} {xs : List V} {g : TG} {tb : TS} {D : Ends} {σ : St} {H : Hp} (Pv : Nat → St → Hp → Prop) (h0 : Pv 0 σ H) (hl : ∀ i σ H, i ≤ xs.length → Pv i σ H → SqL K H a xs)
    (hs : ∀ i x σ H p, xs[i]? = some x → Pv i σ H → H p = none → g (.ref p) σ (upd H p (.tup [.int i, x])) fun σ2 H2 => tb { D with nx := Pv (i + 1), ct := Pv (i + 1), bk := D.nx } σ2 H2) (hd : ∀ σ H, Pv xs.length σ H → D.nx σ H) :
    ∃ W : Nat → Nat → St → Hp → Prop, (∃ m, W 0 m σ H) ∧ ∀ i m σ H, W i m σ H →
      ((ItE K a).stop i H ∧ D.nx σ H) ∨ ((ItE K a).go i H ∧ ∃ N : St → Hp → Prop, (∀ σ' H', N σ' H' → ∃ m', m' < m ∧ W (i + 1) m' σ' H') ∧ ∀ x H', (ItE K a).yld i H x H' → g x σ H' fun σ2 H2 => tb { D with nx := N, ct := N, bk := D.nx } σ2 H2) := by
  refine ⟨fun i m σ H => m = xs.length - i ∧ i ≤ xs.length ∧ Pv i σ H, ⟨xs.length, by simp, Nat.zero_le _, h0⟩, ?_⟩
  rintro i m σ H ⟨rfl, hi, p⟩
  have q := hl i σ H hi p
  by_cases hlt : i < xs.length
  · refine .inr ⟨⟨xs, xs[i], q, by simp [hlt]⟩, Pv (i + 1), fun σ' H' p' => ⟨xs.length - (i + 1), by omega, rfl, hlt, p'⟩, fun x H' y => ?_⟩
    obtain ⟨pp, v, hn, e1, e2, y⟩ := y
    subst e1 e2
    exact hs i v σ H pp (y xs q) p hn
  · have e : i = xs.length := by omega
    subst e
    exact .inl ⟨⟨xs, q, Nat.le_refl _⟩, hd σ H p⟩
section
variable {X : Cx}
theorem lst_walk' {pins : List (Addr × Obj)} {σ : St} {H : Hp} {s : Shared} {a : Addr} {its : List Value} (I : Inv X pins σ H s) (tp : s.heap.IsList a its.toArray) (hc : X.calm = true) {Q : Value → Shared → Prop}
    (q : ∀ s2 : Shared, s2 = { s with heap := s.heap.push { cls := .type "list_iterator", data := .fields #[.ref a, .int 0 0] } } → Walks X.prog X.w X.A.in1 s.heap.objs.size [s.heap.objs.size, a] [s.heap.objs.size] its.toArray.size (fun i v => its.toArray[i]? = some v) (fun i h => h.IsListIter s.heap.objs.size a i ∧ h.IsList a its.toArray) →
      (s2.heap.IsListIter s.heap.objs.size a 0 ∧ s2.heap.IsList a its.toArray) → (∀ b ∈ [s.heap.objs.size, a], b < s2.heap.objs.size) → Q (.ref s.heap.objs.size) s2) : wpAny (model X.prog X.w) X.A.in1 (pyIter (.ref a)) Q X.xe s := by
  have hlt : a < s.heap.objs.size := by obtain ⟨_, e, _⟩ := tp; exact Heap.lt_size e
  refine wpAny_pyIter_list tp (q _ rfl (Walks.list (by exact I.ok.hd hc) _ _ (Nat.ne_of_lt hlt) _) ⟨⟨_, Heap.get?_push_size _ rfl, rfl, rfl⟩, ?_⟩ fun b hb => ?_)
  · obtain ⟨o, e, r⟩ := tp
    exact ⟨o, Heap.get?_push_of_some _ e, r⟩
  · show b < (s.heap.push _).objs.size
    rw [Heap.size_push]
    rcases List.mem_cons.mp hb with rfl | hb
    · exact Nat.lt_succ_self _
    · rw [List.mem_singleton.mp hb]
      exact Nat.lt_succ_of_lt hlt
theorem preSum_take (ns : List Int) : ∀ k, k ≤ ns.length → preSum (fun i => ns.getD i 0) k = (ns.take k).sum
  | 0, _ => rfl
  | k + 1, h => by
    show preSum _ k + ns.getD k 0 = _
    rw [preSum_take ns k (by omega), ← List.take_append_getElem (by omega : k < ns.length), List.sum_append, getD_at (by omega)]
    simp
theorem call_sumL (hc : X.calm = true) : CallR X (.builtin "sum") (fun xs H Q => ∃ (a : Addr) (ns : List Int), xs = [.ref a] ∧ SqL X.K H a (ns.map V.int) ∧ (∀ z ∈ ns, -(2 ^ 63) ≤ z ∧ z < 2 ^ 63) ∧ (∀ k, k ≤ ns.length → -(2 ^ 63) ≤ (ns.take k).sum ∧ (ns.take k).sum < 2 ^ 63) ∧ Q (.int ns.sum) H) := by
  intro pins s σ H xs us Q I r h
  obtain ⟨a, ns, rfl, hq, h1, h2, q⟩ := h
  obtain ⟨u, rfl, ru⟩ := vals1 r
  cases ru
  obtain ⟨its, rv, tp, hz⟩ := I.list hq
  have hl := rv.length
  rw [List.length_map] at hl
  refine call_sum_walk (lst_walk' I tp.isList hc fun s2 e W st hfp => ?_)
  subst e
  refine ⟨_, _, _, _, _, _, fun i => ns.getD i 0, rfl, W, st, hfp, nums_of rv, fun j hj => ?_, fun h' tk t' hk => ?_⟩
  · rw [List.size_toArray] at hj
    refine ⟨?_, ?_⟩
    · show -(2 ^ 63) ≤ ns.getD j 0 ∧ ns.getD j 0 < 2 ^ 63
      rw [getD_at (by omega)]
      exact h1 _ (List.getElem_mem _)
    · rw [preSum_take ns (j + 1) (by omega)]
      exact h2 (j + 1) (by omega)
  · refine ⟨.int ns.sum, H, I.kept (t' := tk) fun b o e => hk b o (fun m => ?_) (Heap.get?_push_of_some _ e), ⟨t', ?_⟩, q⟩
    · have := Heap.lt_size e
      rw [List.mem_singleton.mp m] at this
      exact Nat.lt_irrefl _ this
    · rw [List.size_toArray, ← hl, preSum_take ns _ (Nat.le_refl _), List.take_length]
end
end L2
set_option Elab.async false
set_option linter.all false
set_option maxRecDepth 100000
namespace L2
open PySem PySem.Spec PyProof.Rows PySem.W
inductive TyX (K : Frag) (H : Hp) : V → Value → Prop where
  | of {x : V} {t : Value} (h : TyOf K H x t) : TyX K H x t
  | exc {ea C : Addr} (e : H ea = some (.ext (ExcIs ea C))) (c : ExcCls K C) : TyX K H (.ref ea) (.ref C)
def clsV : V → Value
  | .ref a => .ref a
  | .ty n => .type n
  | _ => .none
def isCls : V → Bool
  | .ref _ => true
  | .ty _ => true
  | _ => false
theorem clsV_rel : ∀ {c : V} {u : Value}, isCls c = true → RelV c u → u = clsV c
  | .ref _, _, _, r => r
  | .ty _, _, _, r => r
section
variable {X : Cx}
theorem tyx_kit {pins : List (Addr × Obj)} {σ : St} {H : Hp} {s : Shared} {x : V} {u t : Value} (I : Inv X pins σ H s) (rx : RelV x u) (ty : TyX X.K H x t) : ∃ J, KitX X.K u t J ∧ J s.heap ∧ u ≠ .builtin "__main__.__loader__#opaque" := by
  cases ty with
  | exc e c =>
    cases (show u = Value.ref _ from rx)
    obtain ⟨J, _⟩ := I.hok _ _ e
    exact ⟨_, kitx_exc c, J, fun z => nomatch z⟩
  | of ty =>
    cases ty with
    | non => cases (show u = Value.none from rx); exact ⟨_, kitx_none, True.intro, fun z => nomatch z⟩
    | bl y => cases (show u = Value.bool y from rx); exact ⟨_, kitx_bool, True.intro, fun z => nomatch z⟩
    | int i => obtain ⟨t, q⟩ := (show ∃ t, u = Value.int i t from rx); cases q; exact ⟨_, kitx_int, True.intro, fun z => nomatch z⟩
    | str y => obtain ⟨t, q⟩ := (show ∃ t, u = Value.str y t from rx); cases q; exact ⟨_, kitx_str, True.intro, fun z => nomatch z⟩
    | flt y => obtain ⟨t, q⟩ := (show ∃ t, u = Value.float y t from rx); cases q; exact ⟨_, kitx_float, True.intro, fun z => nomatch z⟩
    | @lst a xs ea =>
      cases (show u = Value.ref a from rx)
      obtain ⟨_, _, n, _, h1⟩ := (show ObjOk X.prog X.w H s.heap a (.lst xs) from I.hok a _ ea)
      exact ⟨_, kitx_list, ⟨_, h1, rfl⟩, fun z => nomatch z⟩
    | @frz a ob xs ea =>
      cases (show u = Value.ref a from rx)
      obtain ⟨_, _, _, n, _, h1⟩ := (show ObjOk X.prog X.w H s.heap a (.frz ob (.lst xs)) from I.hok a _ ea)
      exact ⟨_, kitx_list, ⟨_, h1, rfl⟩, fun z => nomatch z⟩
    | @tup a xs ea =>
      cases (show u = Value.ref a from rx)
      obtain ⟨_, _, _, p⟩ := (show ObjOk X.prog X.w H s.heap a (.tup xs) from I.hok a _ ea)
      obtain ⟨o, h1, h2, _⟩ := p
      exact ⟨_, kitx_tuple, ⟨o, h1, h2⟩, fun z => nomatch z⟩
    | @dK a kvs ea =>
      cases (show u = Value.ref a from rx)
      obtain ⟨_, _, vs, _, p⟩ := (show ObjOk X.prog X.w H s.heap a (.dK kvs) from I.hok a _ ea)
      obtain ⟨o, es, ep, h1, h2, _⟩ := p
      exact ⟨_, kitx_dict, ⟨o, h1, h2.1⟩, fun z => nomatch z⟩
    | @dT a kvs ea =>
      cases (show u = Value.ref a from rx)
      obtain ⟨_, _, xs, _, o, es, ep, h1, h2, _⟩ := (show ObjOk X.prog X.w H s.heap a (.dT kvs) from I.hok a _ ea)
      exact ⟨_, kitx_dict, ⟨o, h1, h2.1⟩, fun z => nomatch z⟩
    | @ins a C dx fs ea cl ha hn htk hm =>
      cases (show u = Value.ref a from rx)
      obtain ⟨mA, O, _⟩ := ins_get I.hok ea
      obtain ⟨od, J, _⟩ := O.look
      exact ⟨_, kitx_own (cl.get _) cl.hd ha hn htk hm, J, fun z => nomatch z⟩
theorem call_isi : CallR X (.builtin "isinstance") (fun xs H Q => ∃ x c t b, xs = [x, c] ∧ isCls c = true ∧ TyX X.K H x t ∧ kitOne X.K t (clsV c) = some b ∧ Q (.bl b) H) := by
  intro pins s σ H xs us Q I r h
  obtain ⟨x, c, t, b, rfl, hc, ty, e, q⟩ := h
  obtain ⟨u, v, rfl, r1, r2⟩ := vals2 r
  rw [clsV_rel hc r2]
  obtain ⟨J, Z, hJ, hx⟩ := tyx_kit I r1 ty
  exact kia_one Z I.kIn hJ e hx fun tk => ⟨.bl b, H, I.tok tk, rfl, q⟩
end
end L2
set_option Elab.async false
set_option linter.all false
set_option maxRecDepth 100000
namespace L2
open PySem PySem.Spec PyProof.Rows PySem.W
end L2
set_option Elab.async false
set_option linter.all false
set_option maxRecDepth 100000
namespace L2
open PySem PySem.Spec PyProof.Rows PySem.W
def tSortF (K : Frag) (sp : Sp) (tl : TE) : TE := fun σ H Q => tl σ H fun x H1 =>
  ∃ (l : Addr) (xs : List V) (kz : List (Int × Int)) (B : Int), x = .ref l ∧ SqL K H1 l xs ∧ 0 < xs.length ∧ xs.length < 64 ∧ kz.length = xs.length ∧ (∀ z ∈ kz, 0 ≤ z.2 ∧ z.2 < B) ∧
    (∀ (i : Nat) (x : V) (z : Int × Int) (H' : Hp) (R : VK), xs[i]? = some x → kz[i]? = some z → Same H1 H' → (∀ p H'', Same H' H'' → H'' p = some (.tup [.int z.1, .int z.2]) → R (.ref p) H'') → sp [x] H' R E0) ∧
    ∀ (D : Addr) (p : Array Nat) (H' : Hp), Same H1 H' → H' D = none → Srt.Ord xs.length p → Srt.Up (lexKey B kz) p xs.length → Q (.ref D) (upd H' D (.lst (p.toList.map fun i => xs.getD i .non)))
theorem pe_sortF {X : Cx} {l : Expr} {tl : TE} {k : Nat} {x a : Str} {f : Addr} {fd : FuncData} {sp : Sp} {np kpos p pos : Pos} (F : FnOk X.prog X.w X.K X.mg X.base CX0 k f fd [a] sp) (hb : Binds X.K fd [a] []) (hr : Room (k + 2) X.A) (hg : Gl X "sorted") (hm : X.mg "sorted" = none) (hgx : Gl X x) (hmx : X.mg x = some (.ref f)) (hl : PE X l tl)
    (hs : starEach [l] X.env = [(false, eval l X.env)] := by rfl) (hdb : (x == ("__debug__" : Str)) = false := by decide) :
    PE X (.Call (.Name "sorted" p) [l] [⟨some "key", .Name x np, kpos⟩] pos) (tSortF X.K sp tl) := by
  intro pins s σ H Q I h
  refine wpAny_Call_Name_kw (ld_blt I hg hm boot_sorted ?_ (by decide) (by decide))
  refine PyProof.Rows.callWith_kw (thn ((pa_cons hl pa_nil hs) pos pins s σ H (fun vs H1 => match vs with
    | [x] => ∃ (l : Addr) (xs : List V) (kz : List (Int × Int)) (B : Int), x = .ref l ∧ SqL X.K H1 l xs ∧ 0 < xs.length ∧ xs.length < 64 ∧ kz.length = xs.length ∧ (∀ z ∈ kz, 0 ≤ z.2 ∧ z.2 < B) ∧
      (∀ (i : Nat) (x : V) (z : Int × Int) (H' : Hp) (R : VK), xs[i]? = some x → kz[i]? = some z → Same H1 H' → (∀ p H'', Same H' H'' → H'' p = some (.tup [.int z.1, .int z.2]) → R (.ref p) H'') → sp [x] H' R E0) ∧
      ∀ (D : Addr) (p : Array Nat) (H' : Hp), Same H1 H' → H' D = none → Srt.Ord xs.length p → Srt.Up (lexKey B kz) p xs.length → Q (.ref D) (upd H' D (.lst (p.toList.map fun i => xs.getD i .non)))
    | _ => False) I h) fun us s1 ⟨vs, H1, I1, r1, q1⟩ => ?_) (by rw [hs]; rfl) (by rw [hs]; rfl) rfl rfl
  match vs, q1 with
  | [x], q1 =>
  obtain ⟨u, rfl, ru⟩ := vals1 r1
  refine thn ((pk_cons (nm := some "key") (pe_glob (v := .ref f) hgx hmx rfl hdb) pk_nil) pos pins s1 σ H1 (fun ws H2 => ws = [.ref f] ∧ H2 = H1) I1 ⟨rfl, rfl⟩) fun us2 s2 ⟨ws, H2, I2, r2, e1, e2⟩ => ?_
  subst e1 e2
  obtain ⟨u2, rfl, ru2⟩ := vals1 r2
  obtain ⟨la, xs, kz, B, rfl, hL, h1, h64, hkz, hB, items, q⟩ := q1
  cases (show u = Value.ref la from ru)
  cases (show u2 = Value.ref f from ru2)
  show wpAny _ _ (call (.builtin "sorted") [.ref la] [(Str.ofString "key", .ref f)]) _ _ _
  refine sorted_pairs I2 hL h1 h64 hkz hB (fun H' => Same H2 H') (Same.refl _) (fun pins' i x v z s' H' hx hz rx I' g' => ?_) fun D p H' s' g' _ hD po pu I' => ⟨.ref D, _, I', rfl, q D p H' g' hD po pu⟩
  have e0 : Env0 X.prog X.w X.K X.mg X.base X.A.in1.in1 X.stack s' H' := ⟨I'.ok.frames, I'.ok.mod, I'.bs, Nat.le_trans I'.ok.bsz I'.sz, I'.stack, I'.stkFree, I'.hok, I'.bare⟩
  have hsp := items i x z H' (fun v H'' => ∃ p', v = .ref p' ∧ Same H' H'' ∧ H'' p' = some (.tup [.int z.1, .int z.2])) hx hz g' fun p H'' S'' h'' => ⟨p, rfl, S'', h''⟩
  refine wpAny_call (codeAny_mono (F.run X.A.in1.in1 X.stack s' H' ⟨[v], []⟩ [v] [x] _ _ hr.in1.in1 e0 (by simpa using hb s' [v] I'.kIn rfl) (.cons rx .nil) hsp) fun r s'' hq => ?_)
  cases r with
  | error e => exact False.elim hq
  | ok fl =>
    cases fl with
    | next => exact False.elim hq
    | brk => exact False.elim hq
    | cont => exact False.elim hq
    | ret u =>
      obtain ⟨v', H'', I'', r'', p', e, S', h'⟩ := I'.after hq
      subst e
      cases (show u = Value.ref p' from r'')
      exact ⟨p', H'', rfl, I'', g'.trans S', S', h'⟩
end L2
set_option Elab.async false
set_option linter.all false
set_option maxRecDepth 100000
namespace L2
open PySem PySem.Spec PyProof.Rows
section
variable {g : TG} {tc : TT} {te : TE} {σ0 : St} {H0 : Hp} {R : List V → Hp → Prop} {K : PySem.W.Frag} {a : Addr} {xs : List V}
theorem cmp_gen {J : It} {n : Nat} (Pv : Nat → List V → St → Hp → Prop) (h0 : Pv 0 [] σ0 H0) (hz : ∀ i ys σ H, i ≤ n → Pv i ys σ H → ys.length ≤ sizeLine) (hst : ∀ ys σ H, Pv n ys σ H → J.stop n H ∧ R ys H)
    (hgo : ∀ i ys σ H, i < n → Pv i ys σ H → J.go i H ∧ ∀ x H2, J.yld i H x H2 → g x σ H2 fun σ2 H3 => tc σ2 H3 fun b H4 => if b = true then te σ2 H4 fun y H5 => Pv (i + 1) (ys ++ [y]) σ2 H5 else Pv (i + 1) ys σ2 H4) :
    ∃ W : Nat → Nat → List V → St → Hp → Prop, (∃ m, W 0 m [] σ0 H0) ∧ ∀ i m ys σ' H', W i m ys σ' H' →
      (J.stop i H' ∧ ys.length ≤ sizeLine ∧ R ys H') ∨
      (J.go i H' ∧ ys.length ≤ sizeLine ∧ ∃ N : List V → St → Hp → Prop, (∀ ys' σ2 H2, N ys' σ2 H2 → ∃ m', m' < m ∧ W (i + 1) m' ys' σ2 H2) ∧
        ∀ x H2, J.yld i H' x H2 → g x σ' H2 fun σ2 H3 => tc σ2 H3 fun b H4 => if b = true then te σ2 H4 fun y H5 => N (ys ++ [y]) σ2 H5 else N ys σ2 H4) := by
  refine ⟨fun i m ys σ H => m = n - i ∧ i ≤ n ∧ Pv i ys σ H, ⟨n, by simp, Nat.zero_le _, h0⟩, ?_⟩
  rintro i m ys σ H ⟨rfl, hi, p⟩
  by_cases hlt : i < n
  · obtain ⟨go, turn⟩ := hgo i ys σ H hlt p
    exact .inr ⟨go, hz i ys σ H hi p, Pv (i + 1), fun ys' σ' H' p' => ⟨n - (i + 1), by omega, rfl, hlt, p'⟩, turn⟩
  · have e : i = n := by omega
    subst e
    obtain ⟨st, r⟩ := hst ys σ H p
    exact .inl ⟨st, hz i ys σ H hi p, r⟩
theorem cmp_list (Pv : Nat → List V → St → Hp → Prop) (h0 : Pv 0 [] σ0 H0) (hz : ∀ i ys σ H, i ≤ xs.length → Pv i ys σ H → ys.length ≤ sizeLine ∧ SqL K H a xs) (hst : ∀ ys σ H, Pv xs.length ys σ H → R ys H)
    (hgo : ∀ i x ys σ H, xs[i]? = some x → Pv i ys σ H → g x σ H fun σ2 H3 => tc σ2 H3 fun b H4 => if b = true then te σ2 H4 fun y H5 => Pv (i + 1) (ys ++ [y]) σ2 H5 else Pv (i + 1) ys σ2 H4) :
    ∃ W : Nat → Nat → List V → St → Hp → Prop, (∃ m, W 0 m [] σ0 H0) ∧ ∀ i m ys σ' H', W i m ys σ' H' →
      ((Itl K a).stop i H' ∧ ys.length ≤ sizeLine ∧ R ys H') ∨
      ((Itl K a).go i H' ∧ ys.length ≤ sizeLine ∧ ∃ N : List V → St → Hp → Prop, (∀ ys' σ2 H2, N ys' σ2 H2 → ∃ m', m' < m ∧ W (i + 1) m' ys' σ2 H2) ∧
        ∀ x H2, (Itl K a).yld i H' x H2 → g x σ' H2 fun σ2 H3 => tc σ2 H3 fun b H4 => if b = true then te σ2 H4 fun y H5 => N (ys ++ [y]) σ2 H5 else N ys σ2 H4) :=
  cmp_gen (n := xs.length) Pv h0 (fun i ys σ H hi p => (hz i ys σ H hi p).1) (fun ys σ H p => ⟨⟨xs, (hz _ ys σ H (Nat.le_refl _) p).2, Nat.le_refl _⟩, hst ys σ H p⟩)
    fun i ys σ H hi p => ⟨⟨xs, xs[i], (hz i ys σ H (Nat.le_of_lt hi) p).2, by simp [hi]⟩, fun x H2 y => by
      obtain ⟨e, y⟩ := y
      subst e
      exact hgo i x ys σ _ (y xs (hz i ys σ _ (Nat.le_of_lt hi) p).2) p⟩
theorem cmp_tup (Pv : Nat → List V → St → Hp → Prop) (h0 : Pv 0 [] σ0 H0) (hz : ∀ i ys σ H, i ≤ xs.length → Pv i ys σ H → ys.length ≤ sizeLine ∧ SqT K H a xs) (hst : ∀ ys σ H, Pv xs.length ys σ H → R ys H)
    (hgo : ∀ i x ys σ H, xs[i]? = some x → Pv i ys σ H → g x σ H fun σ2 H3 => tc σ2 H3 fun b H4 => if b = true then te σ2 H4 fun y H5 => Pv (i + 1) (ys ++ [y]) σ2 H5 else Pv (i + 1) ys σ2 H4) :
    ∃ W : Nat → Nat → List V → St → Hp → Prop, (∃ m, W 0 m [] σ0 H0) ∧ ∀ i m ys σ' H', W i m ys σ' H' →
      ((Itt K a).stop i H' ∧ ys.length ≤ sizeLine ∧ R ys H') ∨
      ((Itt K a).go i H' ∧ ys.length ≤ sizeLine ∧ ∃ N : List V → St → Hp → Prop, (∀ ys' σ2 H2, N ys' σ2 H2 → ∃ m', m' < m ∧ W (i + 1) m' ys' σ2 H2) ∧
        ∀ x H2, (Itt K a).yld i H' x H2 → g x σ' H2 fun σ2 H3 => tc σ2 H3 fun b H4 => if b = true then te σ2 H4 fun y H5 => N (ys ++ [y]) σ2 H5 else N ys σ2 H4) :=
  cmp_gen (n := xs.length) Pv h0 (fun i ys σ H hi p => (hz i ys σ H hi p).1) (fun ys σ H p => ⟨⟨xs, (hz _ ys σ H (Nat.le_refl _) p).2, Nat.le_refl _⟩, hst ys σ H p⟩)
    fun i ys σ H hi p => ⟨⟨xs, xs[i], (hz i ys σ H (Nat.le_of_lt hi) p).2, by simp [hi]⟩, fun x H2 y => by
      obtain ⟨e, y⟩ := y
      subst e
      exact hgo i x ys σ _ (y xs (hz i ys σ _ (Nat.le_of_lt hi) p).2) p⟩
end
end L2
set_option Elab.async false
set_option linter.all false
set_option maxRecDepth 100000
namespace L2
open PySem PySem.Spec PyProof.Rows PySem.W
end L2
set_option Elab.async false
set_option linter.all false
set_option maxRecDepth 100000
namespace L2
open PySem PySem.Spec PyProof.Rows PySem.W
end L2
set_option Elab.async false
set_option linter.all false
set_option maxRecDepth 100000
namespace L2
open PySem PySem.Spec PyProof.Rows PySem.W
section
variable {X : Cx} {K : Frag}
theorem ix_tupK (hK : X.K = K) : IxR X (rIxT K) := by subst hK; exact ix_tup
theorem ix_listK (hK : X.K = K) : IxR X (rIxL K) := by subst hK; exact ix_list
theorem pg_tupK {es : List Expr} {k : Nat} {t : TGs} {n : Nat} {pos : Pos} (hK : X.K = K) (hc : X.calm = true) (h : PGs X es t)
    (hn : (assignEach es X.env).length = n := by rfl) (hs : (assignEach es X.env).findIdx? (·.1) = none := by rfl) : PG X (.Tuple es k pos) (gTup K n t) := by
  subst hK
  exact pg_tup hc h hn hs
end
end L2
set_option Elab.async false
set_option linter.all false
set_option maxRecDepth 100000
set_option maxHeartbeats 4000000
namespace L2
open PySem PySem.Spec PyProof.Rows
end L2
set_option Elab.async false
set_option linter.all false
set_option maxRecDepth 100000
namespace L2
open PySem PySem.Spec PyProof.Rows
end L2
set_option Elab.async false
set_option linter.all false
namespace Lin
end Lin
set_option Elab.async false
set_option linter.all false
set_option maxRecDepth 100000
namespace L2
open PySem PySem.Spec PyProof.Rows PySem.W
end L2
set_option Elab.async false
set_option linter.all false
set_option maxRecDepth 100000
namespace L2
open PySem PySem.Spec PyProof.Rows
theorem Inv.turnedL {X : Cx} {pins : List (Addr × Obj)} {σ : St} {H : Hp} {s : Shared} {h' : Heap} {t' : Nat} {ch : List Addr} (I : Inv X pins σ H s) (k : ∀ b o, b ∉ ch → s.heap.get? b = some o → h'.get? b = some o) (hf : ∀ b ∈ ch, FpOk X pins H b) :
    Inv X pins σ H { s with heap := h', toks := t' } := by
  have nit : ∀ b u, H b = some u → b ∉ ch := fun b u e m => by rw [(hf b m).1] at e; cases e
  refine I.step (g' := s.gens) (d' := s.drawn) (ch := ch) (fun b hb => ?_) (fun b o _ _ m e _ => k b o m e) (fun b o _ _ m e _ => ⟨o.slots, k b o m e⟩) (fun _ _ _ _ n => n) (fun b o m e => ⟨o, k b o m e⟩) (fun _ _ e => e) (fun _ _ _ e => e)
    (fun b ps e => ⟨#[], by rw [e]; simp⟩) (fun m hm => ?_) (fun b u e => ?_) I.bare
  · obtain ⟨a0, a1, a2, a3, a4, a5⟩ := hf b hb
    exact ⟨a3, a1, a4, a5⟩
  · obtain ⟨o, es, ep, ho, r⟩ := hm
    exact ⟨o, es, ep, k _ o (fun m => (hf _ m).2.1 rfl) ho, r⟩
  · refine (I.hok b u e).stay (fun c v hc q => k c v (fun m => ?_) q) (fun _ q => q) fun _ _ q => q
    rcases hc with z | z
    · rw [z] at m
      exact nit b u e m
    · exact nit c _ z m
theorem ne_cls {h : Heap} {a c : Addr} {its : Array Value} {o : Obj} (hl : h.IsList a its) (hc : h.get? c = some o) (hn : o.cls ≠ .type "list") : a ≠ c := fun z => by
  obtain ⟨o', g1, g2, _⟩ := hl
  rw [z, hc] at g1
  cases g1
  exact hn g2
def ItZ (K : PySem.W.Frag) (a b : Addr) : It :=
  ⟨fun i H => ∃ xs ys x y, SqL K H a xs ∧ SqL K H b ys ∧ xs[i]? = some x ∧ ys[i]? = some y,
   fun i H x H' => ∃ p u v, H p = none ∧ x = .ref p ∧ H' = upd H p (.tup [u, v]) ∧ (∀ xs, SqL K H a xs → xs[i]? = some u) ∧ ∀ ys, SqL K H b ys → ys[i]? = some v,
   fun i H => ∃ xs ys, SqL K H a xs ∧ SqL K H b ys ∧ (xs.length ≤ i ∨ ys.length ≤ i)⟩
structure Dst (z TI TO i1 i2 : Addr) : Prop where
  TIz : TI ≠ z
  TOz : TO ≠ z
  i1z : i1 ≠ z
  i2z : i2 ≠ z
  TITO : TI ≠ TO
  TIi1 : TI ≠ i1
  TIi2 : TI ≠ i2
  TOi1 : TO ≠ i1
  TOi2 : TO ≠ i2
  i12 : i1 ≠ i2
theorem dst_of (n : Nat) : Dst (n + 4) (n + 2) (n + 3) n (n + 1) := by
  have ne : ∀ {i j : Nat}, i ≠ j → (show Nat from n + i) ≠ (show Nat from n + j) := fun h z => h (Nat.add_left_cancel z)
  exact ⟨ne (i := 2) (j := 4) (by decide), ne (i := 3) (j := 4) (by decide), ne (i := 0) (j := 4) (by decide), ne (i := 1) (j := 4) (by decide), ne (i := 2) (j := 3) (by decide), ne (i := 2) (j := 0) (by decide), ne (i := 2) (j := 1) (by decide), ne (i := 3) (j := 0) (by decide), ne (i := 3) (j := 1) (by decide), ne (i := 0) (j := 1) (by decide)⟩
theorem le_of_new {n c : Nat} (h : c = n + 4 ∨ c = n + 2 ∨ c = n + 3 ∨ c = n ∨ c = n + 1) : n ≤ c := by omega
theorem zip_apart {h : Heap} {z TI TO i1 i2 a b : Addr} {xs ys : Array Value} {k1 k2 : Nat} {f0 v u : Value} (D : Dst z TI TO i1 i2) (hz : IsZip h z TI TO f0) (hTO : IsPair h TO v u) (h1 : h.IsListIter i1 a k1) (h2 : h.IsListIter i2 b k2) (l1 : h.IsList a xs) (l2 : h.IsList b ys) :
    ZipApart z TI TO i1 i2 a b := by
  obtain ⟨o1, e1, c1, _⟩ := h1
  obtain ⟨o2, e2, c2, _⟩ := h2
  have n1 : o1.cls ≠ .type "list" := by rw [c1]; decide
  have n2 : o2.cls ≠ .type "list" := by rw [c2]; decide
  have nz : Value.type "zip" ≠ .type "list" := by decide
  have nt : Value.type "tuple" ≠ .type "list" := by decide
  exact ⟨D.TIz, D.TOz, D.i1z, D.i2z, D.TITO, D.TIi1, D.TIi2, D.TOi1, D.TOi2, D.i12, ne_cls l1 hz nz, ne_cls l1 hTO nt, ne_cls l1 e1 n1, ne_cls l1 e2 n2, ne_cls l2 hz nz, ne_cls l2 hTO nt, ne_cls l2 e1 n1, ne_cls l2 e2 n2⟩
theorem turn_zip {P : Program} {w : World} {K : PySem.W.Frag} {elts : List Expr} {kx : Nat} {px : Pos} (a b z TI TO i1 i2 : Addr) (D : Dst z TI TO i1 i2) :
    Turn P w K (.Tuple elts kx px) (ItZ K a b) [z, TI, TO, i1, i2] z (fun i h => IsZip h z TI TO .none ∧ IsPair h TI (.ref i1) (.ref i2) ∧ (∃ v u, IsPair h TO v u) ∧ h.IsListIter i1 a i ∧ h.IsListIter i2 b i) where
  mem := by simp
  obj := fun i h st c hc => by
    obtain ⟨hz, hTI, ⟨v, u, hTO⟩, ⟨o1, e1, c1, d1⟩, ⟨o2, e2, c2, d2⟩⟩ := st
    have hc : c = z ∨ c = TI ∨ c = TO ∨ c = i1 ∨ c = i2 := by simpa using hc
    rcases hc with rfl | rfl | rfl | rfl | rfl
    · exact ⟨_, hz, fun v y => by have y' : Data.fields _ = Data.cell v := y; cases y'⟩
    · exact ⟨_, hTI, fun v y => by have y' : Data.seq _ = Data.cell v := y; cases y'⟩
    · exact ⟨_, hTO, fun v y => by have y' : Data.seq _ = Data.cell v := y; cases y'⟩
    · exact ⟨o1, e1, fun v y => by rw [d1] at y; cases y⟩
    · exact ⟨o2, e2, fun v y => by rw [d2] at y; cases y⟩
  keep := fun i h h' st k => by
    obtain ⟨hz, hTI, ⟨v, u, hTO⟩, h1, h2⟩ := st
    exact ⟨k z (by simp) _ hz, k TI (by simp) _ hTI, ⟨v, u, k TO (by simp) _ hTO⟩, h1.at fun o q => k i1 (by simp) o q, h2.at fun o q => k i2 (by simp) o q⟩
  item := by
    intro X hP hw hK hc i pins s σ H E I hf st hg
    subst hP hw hK
    obtain ⟨hz, hTI, ⟨v0, u0, hTO⟩, h1, h2⟩ := st
    obtain ⟨xs, ys, x, y, hq1, hq2, hx, hy⟩ := hg
    obtain ⟨its, rv, tp, hz1⟩ := I.list hq1
    obtain ⟨jts, rw', tq, hz2⟩ := I.list hq2
    obtain ⟨u, hu, ru⟩ := rv.get hx
    obtain ⟨v, hv, rv'⟩ := rw'.get hy
    have Z := zip_apart D hz hTO h1 h2 tp.isList tq.isList
    refine wpAny_pyNext_zip_item Z hz hTI hTO h1 h2 tp.isList tq.isList (x := u) (y := v) (by simpa using hu) (by simpa using hv) fun h' a1 a2 a3 a4 a5 a6 hk => ?_
    refine ⟨_, rfl, wpAny_letOwnedTupleGo_zip a1 fun h'' hz'' hs => ?_⟩
    have lt : ∀ {c o}, s.heap.get? c = some o → s.heap.objs.size ≠ c := fun e => Nat.ne_of_gt (Heap.lt_size e)
    have ne1 := lt hz
    have k2 : ∀ c o, c ∉ [z, TO, i1, i2] → s.heap.get? c = some o → h''.get? c = some o := fun c o m q => by
      have m : c ≠ z ∧ c ≠ TO ∧ c ≠ i1 ∧ c ≠ i2 := by simpa using m
      exact (hs.2 c m.1).trans (hk c o m.1 m.2.1 m.2.2.1 m.2.2.2 q)
    have I1 : Inv X pins σ H { s with heap := h'', toks := s.toks } := I.turnedL (t' := s.toks) k2 fun c m => hf c (by
      have m : c = z ∨ c = TO ∨ c = i1 ∨ c = i2 := by simpa using m
      rcases m with rfl | rfl | rfl | rfl <;> simp)
    have hn : H s.heap.objs.size = none := I.hok.fresh (Nat.le_refl _)
    have FP := I.fpOk (b := s.heap.objs.size) (Nat.le_refl _) hn
    have hT2 : h''.get? s.heap.objs.size = some { cls := .type "tuple", data := .seq #[u, v] } := (hs.2 _ ne1).trans a5
    have I2 := I1.track (p := s.heap.objs.size) (o := .tup [x, y]) hn (Heap.get?_none_of_le I.sz) FP.2.1 FP.2.2.2.2.1 FP.2.2.2.2.2
      ⟨by show 2 ≤ sizeLine; decide, [u, v], .cons ru (.cons rv' .nil), ⟨_, hT2, rfl, _, rfl⟩⟩
    refine ⟨.ref s.heap.objs.size, _, I2, rfl, ⟨_, x, y, hn, rfl, rfl, fun zs hy' => ?_, fun zs hy' => ?_⟩, ⟨hz'', (hs.2 _ D.TIz).trans (hk _ _ D.TIz D.TITO D.TIi1 D.TIi2 hTI), ⟨_, _, (hs.2 _ D.TOz).trans a2⟩, a3.at fun o q => (hs.2 _ D.i1z).trans q, a4.at fun o q => (hs.2 _ D.i2z).trans q⟩, fun c hc => ?_⟩
    · rw [I.list_inj hy' hq1]; exact hx
    · rw [I.list_inj hy' hq2]; exact hy
    · have hb2 : c ≠ s.heap.objs.size := by
        have m : c = z ∨ c = TI ∨ c = TO ∨ c = i1 ∨ c = i2 := by simpa using hc
        rcases m with rfl | rfl | rfl | rfl | rfl
        · exact ne1.symm
        · exact (lt hTI).symm
        · exact (lt hTO).symm
        · obtain ⟨o, g, _⟩ := h1
          exact (lt g).symm
        · obtain ⟨o, g, _⟩ := h2
          exact (lt g).symm
      rw [upd_ne hb2]
      exact (hf c hc).1
  done := by
    intro X hP hw hK hc i pins s σ H E I hf st hg
    subst hP hw hK
    obtain ⟨hz, hTI, ⟨v0, u0, hTO⟩, h1, h2⟩ := st
    obtain ⟨xs, ys, hq1, hq2, hx⟩ := hg
    obtain ⟨its, rv, tp, hz1⟩ := I.list hq1
    obtain ⟨jts, rw', tq, hz2⟩ := I.list hq2
    have l1 := rv.length
    have l2 := rw'.length
    have Z := zip_apart D hz hTO h1 h2 tp.isList tq.isList
    refine wpAny_pyNext_zip_end (I.ok.hd hc) Z hz hTI hTO h1 h2 tp.isList tq.isList ?_ fun h' hk => ⟨rfl, I.turnedL (t' := s.toks) (ch := [z, TO, i1, i2]) (fun c o m q => ?_) fun c m => hf c ?_⟩
    · rcases hx with hx | hx
      · left; simp; omega
      · right; simp; omega
    · have m : c ≠ z ∧ c ≠ TO ∧ c ≠ i1 ∧ c ≠ i2 := by simpa using m
      exact hk c o m.1 m.2.1 m.2.2.1 m.2.2.2 q
    · have m : c = z ∨ c = TO ∨ c = i1 ∨ c = i2 := by simpa using m
      rcases m with rfl | rfl | rfl | rfl <;> simp
  self := fun _ _ _ _ _ st h => wpAny_pyIter_zip st.1 h
def iZip (K : PySem.W.Frag) (ta : TA) : TI := fun σ H R => ta σ H fun vs H1 => ∃ a b, vs = [.ref a, .ref b] ∧ (∃ xs, SqL K H1 a xs) ∧ (∃ ys, SqL K H1 b ys) ∧ R (ItZ K a b) H1
theorem pi_zip {X : Cx} {l r : Expr} {ta : TA} {elts : List Expr} {kx : Nat} {px p pos : Pos} (hg : Gl X "zip") (hm : X.mg "zip" = none) (ha : PA X [l, r] ta) (hs : starEach [l, r] X.env = [(false, eval l X.env), (false, eval r X.env)] := by rfl) (hs2 : starEach [r] X.env = [(false, eval r X.env)] := by rfl) :
    PI X (.Tuple elts kx px) (.Call (.Name "zip" p) [l, r] [] pos) (iZip X.K ta) := by
  intro pins s σ H R I h
  refine Call_ (ld_blt I hg hm boot_zip (PyProof.Rows.callWith_type1 (thn (ha pos pins s σ H _ I h) fun us s1 ⟨vs, H1, I1, r1, q1⟩ => ?_) (by rw [hs, hs2]) (by rw [hs2]; rfl)))
  obtain ⟨a, b, e, ⟨xs, hq1⟩, ⟨ys, hq2⟩, q⟩ := q1
  subst e
  cases r1 with
  | cons r rr =>
    cases rr with
    | cons r' rr =>
      cases rr
      cases r
      cases r'
      obtain ⟨its, rv, tp, hz1⟩ := I1.list hq1
      obtain ⟨jts, rw', tq, hz2⟩ := I1.list hq2
      refine call_zip_2 tp.isList tq.isList fun h' a1 a2 a3 a4 a5 a6 hk => ?_
      refine wpAny_pyIter_zip a1 ?_
      refine ⟨s1.heap.objs.size + 4, [s1.heap.objs.size + 4, s1.heap.objs.size + 2, s1.heap.objs.size + 3, s1.heap.objs.size, s1.heap.objs.size + 1], _, _, H1, rfl, I1.kept (t' := s1.toks) hk,
        turn_zip a b _ _ _ _ _ (dst_of _), ⟨a1, a2, ⟨_, _, a3⟩, a4, a5⟩, fun c hc => ?_, q⟩
      have m : c = s1.heap.objs.size + 4 ∨ c = s1.heap.objs.size + 2 ∨ c = s1.heap.objs.size + 3 ∨ c = s1.heap.objs.size ∨ c = s1.heap.objs.size + 1 := by simpa using hc
      have le : s1.heap.objs.size ≤ c := le_of_new m
      exact I1.fpOk le (I1.hok.fresh le)
section
variable {g : TG} {tc : TT} {te : TE} {σ0 : St} {H0 : Hp} {R : List V → Hp → Prop} {K : PySem.W.Frag} {a b : Addr} {xs ys : List V}
theorem cmp_zip (Pv : Nat → List V → St → Hp → Prop) (h0 : Pv 0 [] σ0 H0) (hz : ∀ i us σ H, i ≤ min xs.length ys.length → Pv i us σ H → us.length ≤ sizeLine ∧ SqL K H a xs ∧ SqL K H b ys) (hst : ∀ us σ H, Pv (min xs.length ys.length) us σ H → R us H)
    (hgo : ∀ i x y us σ H p, xs[i]? = some x → ys[i]? = some y → Pv i us σ H → H p = none → g (.ref p) σ (upd H p (.tup [x, y])) fun σ2 H3 => tc σ2 H3 fun c H4 => if c = true then te σ2 H4 fun u H5 => Pv (i + 1) (us ++ [u]) σ2 H5 else Pv (i + 1) us σ2 H4) :
    ∃ W : Nat → Nat → List V → St → Hp → Prop, (∃ m, W 0 m [] σ0 H0) ∧ ∀ i m us σ' H', W i m us σ' H' →
      ((ItZ K a b).stop i H' ∧ us.length ≤ sizeLine ∧ R us H') ∨
      ((ItZ K a b).go i H' ∧ us.length ≤ sizeLine ∧ ∃ N : List V → St → Hp → Prop, (∀ us' σ2 H2, N us' σ2 H2 → ∃ m', m' < m ∧ W (i + 1) m' us' σ2 H2) ∧
        ∀ x H2, (ItZ K a b).yld i H' x H2 → g x σ' H2 fun σ2 H3 => tc σ2 H3 fun c H4 => if c = true then te σ2 H4 fun u H5 => N (us ++ [u]) σ2 H5 else N us σ2 H4) :=
  cmp_gen (n := min xs.length ys.length) Pv h0 (fun i us σ H hi p => (hz i us σ H hi p).1)
    (fun us σ H p => ⟨⟨xs, ys, (hz _ us σ H (Nat.le_refl _) p).2.1, (hz _ us σ H (Nat.le_refl _) p).2.2, by omega⟩, hst us σ H p⟩)
    fun i us σ H hi p => ⟨⟨xs, ys, xs[i]'(by omega), ys[i]'(by omega), (hz i us σ H (Nat.le_of_lt hi) p).2.1, (hz i us σ H (Nat.le_of_lt hi) p).2.2, List.getElem?_eq_getElem _, List.getElem?_eq_getElem _⟩, fun x H2 y => by
      obtain ⟨q, u, v, hn, e, e2, y1, y2⟩ := y
      subst e e2
      have z := hz i us σ H (Nat.le_of_lt hi) p
      exact hgo i u v us σ H q (y1 xs z.2.1) (y2 ys z.2.2) p hn⟩
end
end L2
set_option Elab.async false
set_option linter.all false
set_option maxRecDepth 100000
namespace L2
open PySem PySem.Spec PyProof.Rows
section
variable {X : Cx}
theorem call_sumG (hc : X.calm = true) : CallR X (.builtin "sum") (fun xs H Q => ∃ (a : Addr) (ns : List Int), xs = [.ref a] ∧ SqL X.K H a (ns.map V.int) ∧ Q (.int ns.sum) H) := by
  intro pins s σ H xs us Q I r h
  obtain ⟨a, ns, rfl, hq, q⟩ := h
  obtain ⟨u, rfl, ru⟩ := vals1 r
  cases ru
  obtain ⟨its, rv, tp, hz⟩ := I.list hq
  have hl := rv.length
  rw [List.length_map] at hl
  refine call_sum_walkG (lst_walk' I tp.isList hc fun s2 e W st hfp => ?_)
  subst e
  refine ⟨_, _, _, _, _, _, fun i => ns.getD i 0, rfl, W, st, hfp, nums_of rv, fun h' tk t' hk => ?_⟩
  refine ⟨.int ns.sum, H, I.kept (t' := tk) fun b o e => hk b o (fun m => ?_) (Heap.get?_push_of_some _ e), ⟨t', ?_⟩, q⟩
  · have := Heap.lt_size e
    rw [List.mem_singleton.mp m] at this
    exact Nat.lt_irrefl _ this
  · rw [List.size_toArray, ← hl, preSum_take ns _ (Nat.le_refl _), List.take_length]
end
end L2
set_option Elab.async false
set_option linter.all false
set_option maxRecDepth 100000
namespace L2
open PySem PySem.Spec PyProof.Rows PySem.W
end L2
set_option Elab.async false
set_option linter.all false
set_option maxRecDepth 100000
namespace L2
open PySem PySem.Spec PyProof.Rows PySem.W
section
variable {X : Cx}
theorem call_intB : CallR X (.type "int") (fun xs H Q => ∃ b : Bool, xs = [.bl b] ∧ Q (.int (if b then 1 else 0)) H) := by
  intro pins s σ H xs us Q I r h
  obtain ⟨b, rfl, q⟩ := h
  obtain ⟨u, rfl, rfl⟩ := vals1 r
  exact call_int_bool ⟨.int (if b then 1 else 0), H, I.tok _, ⟨_, rfl⟩, q⟩
end
end L2
set_option Elab.async false
set_option linter.all false
set_option maxRecDepth 100000
namespace L2
open PySem PySem.Spec PyProof.Rows PySem.W
def IvAt (H : Hp) (v : V) (z : List Int) : Prop := ∃ p, v = .ref p ∧ H p = some (.tup (z.map V.int))
def IvsAt (H : Hp) : List V → List (List Int) → Prop := Paired (IvAt H)
theorem IvAt.same {H H' : Hp} (S : Same H H') {v : V} {z : List Int} (h : IvAt H v z) : IvAt H' v z := let ⟨p, e, q⟩ := h; ⟨p, e, S _ _ q⟩
theorem IvsAt.same {H H' : Hp} (S : Same H H') {vs : List V} {zs : List (List Int)} (h : IvsAt H vs zs) : IvsAt H' vs zs := Paired.imp' (fun _ _ => IvAt.same S) h
theorem IvsAt.len {H : Hp} {vs : List V} {zs : List (List Int)} (h : IvsAt H vs zs) : vs.length = zs.length := Paired.length h
theorem paired_get' {α β : Type} {F : α → β → Prop} : ∀ {xs : List α} {ys : List β} {i : Nat} {x : α}, Paired F xs ys → xs[i]? = some x → ∃ y, ys[i]? = some y ∧ F x y
  | _, _, _, _, .nil, e => by simp at e
  | _, _, 0, _, .cons r _, e => by simp at e; subst e; exact ⟨_, rfl, r⟩
  | _, _, i + 1, x, .cons _ t, e => by
    obtain ⟨v, h1, h2⟩ := paired_get' (i := i) (x := x) t (by simpa using e)
    exact ⟨v, by simpa using h1, h2⟩
end L2
namespace Til
structure Bx where
  l : Int
  t : Int
  r : Int
  b : Int
deriving DecidableEq
def inB (b : Bx) (x y : Int) : Bool := decide (b.l ≤ x) && decide (x < b.r) && decide (b.t ≤ y) && decide (y < b.b)
theorem inB_iff {b : Bx} {x y : Int} : inB b x y = true ↔ b.l ≤ x ∧ x < b.r ∧ b.t ≤ y ∧ y < b.b := by
  simp [inB, and_assoc]
def cnt (bs : List Bx) (x y : Int) : Nat := bs.countP (inB · x y)
theorem cnt_nil (x y : Int) : cnt [] x y = 0 := rfl
theorem cnt_cons (b : Bx) (bs : List Bx) (x y : Int) : cnt (b :: bs) x y = cnt bs x y + (inB b x y).toNat := by
  unfold cnt
  rw [List.countP_cons]
  cases inB b x y <;> rfl
theorem cnt_append (as bs : List Bx) (x y : Int) : cnt (as ++ bs) x y = cnt as x y + cnt bs x y := by
  unfold cnt
  rw [List.countP_append]
structure Ok (n m : Int) (b : Bx) : Prop where
  h0 : 0 ≤ b.l
  h1 : b.l < b.r
  h2 : b.r ≤ n
  v0 : 0 ≤ b.t
  v1 : b.t < b.b
  v2 : b.b ≤ m
structure Tiles (bs : List Bx) (n m : Int) : Prop where
  wf : ∀ b ∈ bs, Ok n m b
  one : ∀ x y, 0 ≤ x → x < n → 0 ≤ y → y < m → cnt bs x y = 1
theorem tiles_start {n m : Int} (hn : 0 < n) (hm : 0 < m) : Tiles [⟨0, 0, n, m⟩] n m := by
  refine ⟨fun b hb => ?_, fun x y h1 h2 h3 h4 => ?_⟩
  · obtain rfl := List.mem_singleton.mp hb
    exact ⟨Int.le_refl 0, hn, Int.le_refl n, Int.le_refl 0, hm, Int.le_refl m⟩
  · have e : inB ⟨0, 0, n, m⟩ x y = true := inB_iff.mpr ⟨h1, h2, h3, h4⟩
    rw [cnt_cons, e]
    rfl
theorem tiles_part {bs nb : List Bx} {n m : Int} {i : Nat} {b : Bx} (T : Tiles bs n m) (hi : bs[i]? = some b) (wf : ∀ c ∈ nb, Ok n m c)
    (hc : ∀ x y, cnt nb x y = (inB b x y).toNat) : Tiles (bs.take i ++ bs.drop (i + 1) ++ nb) n m := by
  have e : bs = bs.take i ++ b :: bs.drop (i + 1) := by
    obtain ⟨h, e⟩ := List.getElem?_eq_some_iff.mp hi
    rw [← e, List.getElem_cons_drop, List.take_append_drop]
  refine ⟨fun c hc' => ?_, fun x y h1 h2 h3 h4 => ?_⟩
  · rcases List.mem_append.mp hc' with h | h
    · rcases List.mem_append.mp h with h | h
      · exact T.wf c (List.mem_of_mem_take h)
      · exact T.wf c (List.mem_of_mem_drop h)
    · exact wf c h
  · have q := T.one x y h1 h2 h3 h4
    rw [e, cnt_append, cnt_cons] at q
    rw [cnt_append, cnt_append, hc]
    omega
theorem toNat_dec (p : Prop) [Decidable p] : (decide p).toNat = if p then 1 else 0 := by
  by_cases h : p <;> simp [h]
theorem inB_nat (b : Bx) (x y : Int) : (inB b x y).toNat = if b.l ≤ x ∧ x < b.r ∧ b.t ≤ y ∧ y < b.b then 1 else 0 := by
  rw [← toNat_dec]
  congr 1
  by_cases h : inB b x y = true
  · rw [h]; exact (decide_eq_true (inB_iff.mp h)).symm
  · rw [decide_eq_false fun z => h (inB_iff.mpr z)]
    simpa using h
theorem ifc {p q : Prop} [Decidable p] [Decidable q] (h : p ↔ q) : (if p then 1 else 0 : Nat) = if q then 1 else 0 := by
  by_cases a : p
  · rw [if_pos a, if_pos (h.mp a)]
  · rw [if_neg a, if_neg fun z => a (h.mpr z)]
theorem part_x {l t r b x : Int} (h1 : l < x) (h2 : x < r) (u v : Int) : cnt [⟨l, t, x, b⟩, ⟨x, t, r, b⟩] u v = (inB ⟨l, t, r, b⟩ u v).toNat := by
  simp only [cnt_cons, cnt_nil, inB_nat]
  by_cases c : u < x
  · rw [if_neg (fun z => Int.not_le.mpr c z.1), Nat.zero_add]
    exact ifc ⟨fun ⟨a, _, d⟩ => ⟨a, Int.lt_trans c h2, d⟩, fun ⟨a, _, d⟩ => ⟨a, c, d⟩⟩
  · rw [if_neg (c := l ≤ u ∧ u < x ∧ _) (fun z => c z.2.1), Nat.zero_add, Nat.add_zero]
    exact ifc ⟨fun ⟨a, d⟩ => ⟨Int.le_trans (Int.le_of_lt h1) a, d⟩, fun ⟨_, d⟩ => ⟨Int.not_lt.mp c, d⟩⟩
theorem part_y {l t r b y : Int} (h1 : t < y) (h2 : y < b) (u v : Int) : cnt [⟨l, t, r, y⟩, ⟨l, y, r, b⟩] u v = (inB ⟨l, t, r, b⟩ u v).toNat := by
  simp only [cnt_cons, cnt_nil, inB_nat]
  by_cases c : v < y
  · rw [if_neg (fun z => Int.not_le.mpr c z.2.2.1), Nat.zero_add]
    exact ifc ⟨fun ⟨a, e, d, _⟩ => ⟨a, e, d, Int.lt_trans c h2⟩, fun ⟨a, e, d, _⟩ => ⟨a, e, d, c⟩⟩
  · rw [if_neg (c := l ≤ u ∧ u < r ∧ t ≤ v ∧ v < y) (fun z => c z.2.2.2), Nat.zero_add, Nat.add_zero]
    exact ifc ⟨fun ⟨a, e, d, f⟩ => ⟨a, e, Int.le_trans (Int.le_of_lt h1) d, f⟩, fun ⟨a, e, _, f⟩ => ⟨a, e, Int.not_lt.mp c, f⟩⟩
theorem ok_part_x {n m l t r b x : Int} (o : Ok n m ⟨l, t, r, b⟩) (h1 : l < x) (h2 : x < r) : ∀ c ∈ [(⟨l, t, x, b⟩ : Bx), ⟨x, t, r, b⟩], Ok n m c := by
  obtain ⟨a1, a2, a3, a4, a5, a6⟩ := o
  dsimp only at a1 a2 a3 a4 a5 a6
  intro c hc
  simp only [List.mem_cons, List.not_mem_nil, or_false] at hc
  rcases hc with rfl | rfl <;> constructor <;> dsimp only <;> omega
theorem ok_part_y {n m l t r b y : Int} (o : Ok n m ⟨l, t, r, b⟩) (h1 : t < y) (h2 : y < b) : ∀ c ∈ [(⟨l, t, r, y⟩ : Bx), ⟨l, y, r, b⟩], Ok n m c := by
  obtain ⟨a1, a2, a3, a4, a5, a6⟩ := o
  dsimp only at a1 a2 a3 a4 a5 a6
  intro c hc
  simp only [List.mem_cons, List.not_mem_nil, or_false] at hc
  rcases hc with rfl | rfl <;> constructor <;> dsimp only <;> omega
def wheelA (l t r b x y u v : Int) : List Bx := [⟨l, t, u, y⟩, ⟨u, t, r, v⟩, ⟨x, v, r, b⟩, ⟨l, y, x, b⟩, ⟨x, y, u, v⟩]
def wheelB (l t r b x y u v : Int) : List Bx := [⟨x, t, r, y⟩, ⟨u, y, r, b⟩, ⟨l, v, u, b⟩, ⟨l, t, x, v⟩, ⟨x, y, u, v⟩]
theorem two_x {l t r b x : Int} (h1 : l < x) (h2 : x < r) (u v : Int) : (inB ⟨l, t, x, b⟩ u v).toNat + (inB ⟨x, t, r, b⟩ u v).toNat = (inB ⟨l, t, r, b⟩ u v).toNat := by
  have := part_x (t := t) (b := b) h1 h2 u v
  simp only [cnt_cons, cnt_nil] at this
  omega
theorem two_y {l t r b y : Int} (h1 : t < y) (h2 : y < b) (u v : Int) : (inB ⟨l, t, r, y⟩ u v).toNat + (inB ⟨l, y, r, b⟩ u v).toNat = (inB ⟨l, t, r, b⟩ u v).toNat := by
  have := part_y (l := l) (r := r) h1 h2 u v
  simp only [cnt_cons, cnt_nil] at this
  omega
theorem part_wheelA {l t r b x y u v : Int} (h1 : l < x) (h2 : x < u) (h3 : u < r) (h4 : t < y) (h5 : y < v) (h6 : v < b) (p q : Int) :
    cnt (wheelA l t r b x y u v) p q = (inB ⟨l, t, r, b⟩ p q).toNat := by
  have e1 := two_y (l := l) (r := r) h4 (Int.lt_trans h5 h6) p q
  have e2 := two_x (t := t) (b := y) (Int.lt_trans h1 h2) h3 p q
  have e3 := two_x (t := y) (b := b) h1 (Int.lt_trans h2 h3) p q
  have e4 := two_y (l := x) (r := r) h5 h6 p q
  have e5 := two_x (t := y) (b := v) h2 h3 p q
  have e6 := two_y (l := u) (r := r) h4 h5 p q
  simp only [wheelA, cnt_cons, cnt_nil]
  clear h1 h2 h3 h4 h5 h6
  omega
theorem part_wheelB {l t r b x y u v : Int} (h1 : l < x) (h2 : x < u) (h3 : u < r) (h4 : t < y) (h5 : y < v) (h6 : v < b) (p q : Int) :
    cnt (wheelB l t r b x y u v) p q = (inB ⟨l, t, r, b⟩ p q).toNat := by
  have e1 := two_y (l := l) (r := r) h4 (Int.lt_trans h5 h6) p q
  have e2 := two_x (t := t) (b := y) h1 (Int.lt_trans h2 h3) p q
  have e3 := two_x (t := y) (b := b) (Int.lt_trans h1 h2) h3 p q
  have e4 := two_y (l := l) (r := u) h5 h6 p q
  have e5 := two_x (t := y) (b := v) h1 h2 p q
  have e6 := two_y (l := l) (r := x) h4 h5 p q
  simp only [wheelB, cnt_cons, cnt_nil]
  clear h1 h2 h3 h4 h5 h6
  omega
theorem ok_wheelA {n m l t r b x y u v : Int} (o : Ok n m ⟨l, t, r, b⟩) (h1 : l < x) (h2 : x < u) (h3 : u < r) (h4 : t < y) (h5 : y < v) (h6 : v < b) : ∀ c ∈ wheelA l t r b x y u v, Ok n m c := by
  obtain ⟨a1, a2, a3, a4, a5, a6⟩ := o
  dsimp only at a1 a2 a3 a4 a5 a6
  intro c hc
  simp only [wheelA, List.mem_cons, List.not_mem_nil, or_false] at hc
  have lu := Int.lt_trans h1 h2
  have xr := Int.lt_trans h2 h3
  have tv := Int.lt_trans h4 h5
  have yb := Int.lt_trans h5 h6
  have x0 := Int.le_trans a1 (Int.le_of_lt h1)
  have u0 := Int.le_trans a1 (Int.le_of_lt lu)
  have y0 := Int.le_trans a4 (Int.le_of_lt h4)
  have v0 := Int.le_trans a4 (Int.le_of_lt tv)
  have xn := Int.le_trans (Int.le_of_lt xr) a3
  have un := Int.le_trans (Int.le_of_lt h3) a3
  have ym := Int.le_trans (Int.le_of_lt yb) a6
  have vm := Int.le_trans (Int.le_of_lt h6) a6
  rcases hc with rfl | rfl | rfl | rfl | rfl
  · exact ⟨a1, lu, un, a4, h4, ym⟩
  · exact ⟨u0, h3, a3, a4, tv, vm⟩
  · exact ⟨x0, xr, a3, v0, h6, a6⟩
  · exact ⟨a1, h1, xn, y0, yb, a6⟩
  · exact ⟨x0, h2, un, y0, h5, vm⟩
theorem ok_wheelB {n m l t r b x y u v : Int} (o : Ok n m ⟨l, t, r, b⟩) (h1 : l < x) (h2 : x < u) (h3 : u < r) (h4 : t < y) (h5 : y < v) (h6 : v < b) : ∀ c ∈ wheelB l t r b x y u v, Ok n m c := by
  obtain ⟨a1, a2, a3, a4, a5, a6⟩ := o
  dsimp only at a1 a2 a3 a4 a5 a6
  intro c hc
  simp only [wheelB, List.mem_cons, List.not_mem_nil, or_false] at hc
  have lu := Int.lt_trans h1 h2
  have xr := Int.lt_trans h2 h3
  have tv := Int.lt_trans h4 h5
  have yb := Int.lt_trans h5 h6
  have x0 := Int.le_trans a1 (Int.le_of_lt h1)
  have u0 := Int.le_trans a1 (Int.le_of_lt lu)
  have y0 := Int.le_trans a4 (Int.le_of_lt h4)
  have v0 := Int.le_trans a4 (Int.le_of_lt tv)
  have xn := Int.le_trans (Int.le_of_lt xr) a3
  have un := Int.le_trans (Int.le_of_lt h3) a3
  have ym := Int.le_trans (Int.le_of_lt yb) a6
  have vm := Int.le_trans (Int.le_of_lt h6) a6
  rcases hc with rfl | rfl | rfl | rfl | rfl
  · exact ⟨x0, xr, a3, a4, h4, ym⟩
  · exact ⟨u0, h3, a3, y0, yb, a6⟩
  · exact ⟨a1, lu, un, v0, h6, a6⟩
  · exact ⟨a1, h1, xn, a4, tv, vm⟩
  · exact ⟨x0, h2, un, y0, h5, vm⟩
def cntI (p : Nat → Bool) : Nat → Nat
  | 0 => 0
  | i + 1 => cntI p i + (p i).toNat
theorem lt_succ_ind (m i : Nat) : (if m < i + 1 then 1 else 0) = (if m < i then 1 else 0) + (if m = i then 1 else 0) := by
  by_cases a : m < i
  · rw [if_pos a, if_pos (Nat.lt_succ_of_lt a), if_neg (Nat.ne_of_lt a)]
  · by_cases c : m = i
    · rw [if_neg a, if_pos c, if_pos (by rw [c]; exact Nat.lt_succ_self i)]
    · rw [if_neg a, if_neg c, if_neg (fun z => (Nat.lt_or_eq_of_le (Nat.le_of_lt_succ z)).elim a c)]
theorem cntI_two {p : Nat → Bool} {j k : Nat} (hj : p j = true) (hk : p k = true) (h : j ≠ k) : ∀ i, (if j < i then 1 else 0) + (if k < i then 1 else 0) ≤ cntI p i
  | 0 => Nat.le_refl 0
  | i + 1 => by
    have ih := cntI_two hj hk h i
    have this : (if j = i then 1 else 0) + (if k = i then 1 else 0) ≤ (p i).toNat := by
      by_cases a : j = i
      · subst a
        rw [hj, if_pos rfl, if_neg (Ne.symm h)]
        exact Nat.le_refl 1
      · by_cases c : k = i
        · subst c
          rw [hk, if_neg a, if_pos rfl]
          exact Nat.le_refl 1
        · rw [if_neg a, if_neg c]
          exact Nat.zero_le _
    show _ ≤ cntI p i + (p i).toNat
    rw [lt_succ_ind j, lt_succ_ind k, Nat.add_add_add_comm]
    exact Nat.add_le_add ih this
def atB (bs : List Bx) (x y : Int) (k : Nat) : Bool := match bs[k]? with
  | some b => inB b x y
  | none => false
theorem cnt_take (bs : List Bx) (x y : Int) : ∀ i, i ≤ bs.length → cnt (bs.take i) x y = cntI (atB bs x y) i
  | 0, _ => rfl
  | i + 1, h => by
    have hi : i < bs.length := h
    rw [← List.take_append_getElem hi, cnt_append, cnt_take bs x y i (Nat.le_of_lt hi), cnt_cons, cnt_nil]
    show _ = cntI _ i + (atB bs x y i).toNat
    have e : atB bs x y i = inB bs[i] x y := by unfold atB; rw [List.getElem?_eq_getElem hi]
    rw [e]
    omega
theorem cnt_all (bs : List Bx) (x y : Int) : cnt bs x y = cntI (atB bs x y) bs.length := by
  have h := cnt_take bs x y bs.length (Nat.le_refl _)
  rwa [List.take_length] at h
theorem atB_some {bs : List Bx} {x y : Int} {k : Nat} {b : Bx} (h : bs[k]? = some b) : atB bs x y k = inB b x y := by unfold atB; rw [h]
theorem Tiles.apart {bs : List Bx} {n m : Int} (T : Tiles bs n m) {i j : Nat} {b c : Bx} (hi : bs[i]? = some b) (hj : bs[j]? = some c) (hne : i ≠ j) :
    b.r ≤ c.l ∨ c.r ≤ b.l ∨ b.b ≤ c.t ∨ c.b ≤ b.t := by
  have ob := T.wf b (List.mem_of_getElem? hi)
  have oc := T.wf c (List.mem_of_getElem? hj)
  obtain ⟨a1, a2, a3, a4, a5, a6⟩ := ob
  obtain ⟨c1, c2, c3, c4, c5, c6⟩ := oc
  have li : i < bs.length := (List.getElem?_eq_some_iff.mp hi).1
  have lj : j < bs.length := (List.getElem?_eq_some_iff.mp hj).1
  by_cases h1 : b.r ≤ c.l
  · exact .inl h1
  by_cases h2 : c.r ≤ b.l
  · exact .inr (.inl h2)
  by_cases h3 : b.b ≤ c.t
  · exact .inr (.inr (.inl h3))
  by_cases h4 : c.b ≤ b.t
  · exact .inr (.inr (.inr h4))
  exfalso
  have main : ∀ x y : Int, b.l ≤ x → c.l ≤ x → x < b.r → x < c.r → b.t ≤ y → c.t ≤ y → y < b.b → y < c.b → False := by
    intro x y x1 x2 x3 x4 y1 y2 y3 y4
    have q := T.one x y (by omega) (by omega) (by omega) (by omega)
    rw [cnt_all] at q
    have z := cntI_two (p := atB bs x y) (j := i) (k := j) (by rw [atB_some hi]; exact inB_iff.mpr ⟨x1, x3, y1, y3⟩) (by rw [atB_some hj]; exact inB_iff.mpr ⟨x2, x4, y2, y4⟩) hne bs.length
    rw [if_pos li, if_pos lj] at z
    omega
  by_cases p : b.l ≤ c.l <;> by_cases q : b.t ≤ c.t
  · exact main c.l c.t (by omega) (by omega) (by omega) (by omega) (by omega) (by omega) (by omega) (by omega)
  · exact main c.l b.t (by omega) (by omega) (by omega) (by omega) (by omega) (by omega) (by omega) (by omega)
  · exact main b.l c.t (by omega) (by omega) (by omega) (by omega) (by omega) (by omega) (by omega) (by omega)
  · exact main b.l b.t (by omega) (by omega) (by omega) (by omega) (by omega) (by omega) (by omega) (by omega)
theorem tiles_find {bs : List Bx} {n m : Int} (T : Tiles bs n m) {x y : Int} (h1 : 0 ≤ x) (h2 : x < n) (h3 : 0 ≤ y) (h4 : y < m) :
    ∃ (k : Nat) (b : Bx), bs[k]? = some b ∧ inB b x y = true ∧ ∀ (j : Nat) (c : Bx), bs[j]? = some c → inB c x y = true → j = k := by
  have q := T.one x y h1 h2 h3 h4
  have p : 0 < bs.countP (inB · x y) := by unfold cnt at q; omega
  obtain ⟨b, hb, hin⟩ := List.countP_pos_iff.mp p
  obtain ⟨k, hk⟩ := List.mem_iff_getElem?.mp hb
  refine ⟨k, b, hk, hin, fun j c hj hc => ?_⟩
  refine Classical.byContradiction fun ne => ?_
  rw [cnt_all] at q
  have z := cntI_two (p := atB bs x y) (j := j) (k := k) (by rw [atB_some hj]; exact hc) (by rw [atB_some hk]; exact hin) ne bs.length
  rw [if_pos (List.getElem?_eq_some_iff.mp hj).1, if_pos (List.getElem?_eq_some_iff.mp hk).1] at z
  omega
end Til
namespace Til
end Til
namespace Til
def sumN (f : Nat → Int) : Nat → Int
  | 0 => 0
  | n + 1 => sumN f n + f n
theorem sumN_congr {f g : Nat → Int} : ∀ n, (∀ i, i < n → f i = g i) → sumN f n = sumN g n
  | 0, _ => rfl
  | n + 1, h => by
    show sumN f n + f n = sumN g n + g n
    rw [sumN_congr n fun i hi => h i (Nat.lt_succ_of_lt hi), h n (Nat.lt_succ_self n)]
theorem sumN_add (f g : Nat → Int) : ∀ n, sumN (fun i => f i + g i) n = sumN f n + sumN g n
  | 0 => rfl
  | n + 1 => by
    show sumN _ n + (f n + g n) = (sumN f n + f n) + (sumN g n + g n)
    rw [sumN_add f g n]
    omega
theorem sumN_const (c : Int) : ∀ n : Nat, sumN (fun _ => c) n = n * c
  | 0 => by show (0 : Int) = (0 : Nat) * c; simp
  | n + 1 => by
    show sumN _ n + c = _
    rw [sumN_const c n, Int.natCast_add, Int.add_mul]
    simp
theorem sumN_le {f g : Nat → Int} : ∀ n, (∀ i, i < n → f i ≤ g i) → sumN f n ≤ sumN g n
  | 0, _ => Int.le_refl _
  | n + 1, h => by
    show sumN f n + f n ≤ sumN g n + g n
    have a := sumN_le n fun i hi => h i (Nat.lt_succ_of_lt hi)
    have b := h n (Nat.lt_succ_self n)
    omega
theorem sumN_eq_of_le {f g : Nat → Int} : ∀ n, (∀ i, i < n → f i ≤ g i) → sumN f n = sumN g n → ∀ i, i < n → f i = g i
  | 0, _, _, i, hi => absurd hi (Nat.not_lt_zero _)
  | n + 1, h, e, i, hi => by
    have e : sumN f n + f n = sumN g n + g n := e
    have a := sumN_le n fun i hi => h i (Nat.lt_succ_of_lt hi)
    have b := h n (Nat.lt_succ_self n)
    by_cases hn : i = n
    · subst hn; omega
    · exact sumN_eq_of_le n (fun i hi => h i (Nat.lt_succ_of_lt hi)) (by omega) i (by omega)
theorem sumN_span (a b : Int) : ∀ n : Nat, 0 ≤ a → a ≤ b → sumN (fun i => if a ≤ (i : Int) ∧ (i : Int) < b then 1 else 0) n = min b n - min a n
  | 0, h1, h2 => by show (0 : Int) = _; simp; omega
  | n + 1, h1, h2 => by
    show sumN _ n + (if a ≤ (n : Int) ∧ (n : Int) < b then 1 else 0) = _
    rw [sumN_span a b n h1 h2]
    split <;> omega
theorem sumN_mulc (f : Nat → Int) (c : Int) : ∀ n, sumN (fun i => f i * c) n = sumN f n * c
  | 0 => by show (0 : Int) = 0 * c; simp
  | n + 1 => by
    show sumN _ n + f n * c = (sumN f n + f n) * c
    rw [sumN_mulc f c n, Int.add_mul]
def area (b : Bx) : Int := (b.r - b.l) * (b.b - b.t)
def dbl (f : Int → Int → Int) (W G : Nat) : Int := sumN (fun y => sumN (fun x => f x y) W) G
theorem dbl_box {W G : Nat} {b : Bx} (o : Ok W G b) : dbl (fun x y => ((inB b x y).toNat : Int)) W G = area b := by
  obtain ⟨a1, a2, a3, a4, a5, a6⟩ := o
  have row : ∀ y : Nat, sumN (fun x => (((inB b x y).toNat : Nat) : Int)) W = (if b.t ≤ (y : Int) ∧ (y : Int) < b.b then 1 else 0) * (b.r - b.l) := by
    intro y
    by_cases hy : b.t ≤ (y : Int) ∧ (y : Int) < b.b
    · rw [if_pos hy, Int.one_mul]
      have := sumN_span b.l b.r W a1 (by omega)
      rw [← sumN_congr (f := fun x => (((inB b x y).toNat : Nat) : Int)) W fun i hi => ?_] at this
      · rw [this]; omega
      · show _ = _
        rw [inB_nat]
        by_cases hx : b.l ≤ (i : Int) ∧ (i : Int) < b.r
        · rw [if_pos ⟨hx.1, hx.2, hy.1, hy.2⟩, if_pos hx]; rfl
        · rw [if_neg (fun z => hx ⟨z.1, z.2.1⟩), if_neg hx]; rfl
    · rw [if_neg hy, Int.zero_mul]
      have := sumN_const 0 W
      rw [Int.mul_zero] at this
      rw [← this]
      refine sumN_congr W fun i hi => ?_
      rw [inB_nat, if_neg (fun z => hy ⟨z.2.2.1, z.2.2.2⟩)]
      rfl
  unfold dbl
  rw [sumN_congr G fun y _ => row y, sumN_mulc, sumN_span b.t b.b G a4 (by omega)]
  unfold area
  rw [Int.mul_comm]
  congr 1
  omega
theorem dbl_add (f g : Int → Int → Int) (W G : Nat) : dbl (fun x y => f x y + g x y) W G = dbl f W G + dbl g W G := by
  unfold dbl
  rw [← sumN_add]
  exact sumN_congr G fun y _ => sumN_add _ _ W
theorem areas_cnt {W G : Nat} : ∀ {bs : List Bx}, (∀ b ∈ bs, Ok W G b) → (bs.map area).sum = dbl (fun x y => (cnt bs x y : Int)) W G
  | [], _ => by
    show (0 : Int) = _
    unfold dbl
    have e : ∀ y : Nat, sumN (fun x => ((cnt [] x y : Nat) : Int)) W = 0 := fun y => by
      have := sumN_const 0 W
      rw [Int.mul_zero] at this
      exact this
    rw [sumN_congr G fun y _ => e y, sumN_const, Int.mul_zero]
  | b :: bs, h => by
    rw [List.map_cons, List.sum_cons, areas_cnt fun c hc => h c (List.mem_cons_of_mem _ hc), ← dbl_box (h b List.mem_cons_self), ← dbl_add]
    unfold dbl
    refine sumN_congr G fun y _ => sumN_congr W fun x _ => ?_
    show ((inB b x y).toNat : Int) + (cnt bs x y : Int) = ((cnt (b :: bs) x y : Nat) : Int)
    rw [cnt_cons]
    omega
theorem dbl_one (W G : Nat) : dbl (fun _ _ => 1) W G = W * G := by
  unfold dbl
  rw [sumN_congr G fun y _ => sumN_const 1 W, sumN_const, Int.mul_one, Int.mul_comm]
theorem area_of_tiles {bs : List Bx} {W G : Nat} (T : Tiles bs W G) : (bs.map area).sum = W * G := by
  rw [areas_cnt T.wf, ← dbl_one]
  unfold dbl
  refine sumN_congr G fun y hy => sumN_congr W fun x hx => ?_
  show ((cnt bs x y : Nat) : Int) = 1
  rw [T.one x y (by omega) (by omega) (by omega) (by omega)]
  rfl
theorem tiles_of_area {bs : List Bx} {W G : Nat} (wf : ∀ b ∈ bs, Ok W G b) (one : ∀ x y, cnt bs x y ≤ 1) (h : (bs.map area).sum = W * G) : Tiles bs W G := by
  refine ⟨wf, fun x y x1 x2 y1 y2 => ?_⟩
  rw [areas_cnt wf, ← dbl_one] at h
  have r := sumN_eq_of_le G (fun y _ => sumN_le W fun x _ => by have := one x y; show ((cnt bs x y : Nat) : Int) ≤ 1; omega) h y.toNat (by omega)
  have q := sumN_eq_of_le W (fun x _ => by have := one x y.toNat; show ((cnt bs x y.toNat : Nat) : Int) ≤ 1; omega) r x.toNat (by omega)
  have q : ((cnt bs x.toNat y.toNat : Nat) : Int) = 1 := q
  rw [Int.toNat_of_nonneg x1, Int.toNat_of_nonneg y1] at q
  omega
def lap (b c : Bx) : Bool := (decide (b.l < c.r) && decide (c.l < b.r)) && (decide (b.t < c.b) && decide (c.t < b.b))
theorem lap_of {b c : Bx} {x y : Int} (h1 : inB b x y = true) (h2 : inB c x y = true) : lap b c = true := by
  have h1 := inB_iff.mp h1
  have h2 := inB_iff.mp h2
  unfold lap
  simp only [Bool.and_eq_true, decide_eq_true_eq]
  omega
theorem tiles_nolap {bs : List Bx} {n m : Int} (T : Tiles bs n m) : bs.Pairwise (fun b c => lap b c = false) := by
  rw [List.pairwise_iff_getElem]
  intro i j hi hj hij
  have ap := T.apart (List.getElem?_eq_getElem hi) (List.getElem?_eq_getElem hj) (by omega)
  rw [Bool.eq_false_iff]
  intro z
  unfold lap at z
  simp only [Bool.and_eq_true, decide_eq_true_eq] at z
  omega
structure Page (W G : Int) (bs : List Bx) : Prop where
  w : 1 ≤ W
  g : 1 ≤ G
  n1 : 1 ≤ bs.length
  n24 : bs.length ≤ 24
  wf : ∀ b ∈ bs, b.l < b.r ∧ b.t < b.b
  within : ∀ b ∈ bs, 0 ≤ b.l ∧ b.r ≤ W ∧ 0 ≤ b.t ∧ b.b ≤ G
  apart : bs.Pairwise (fun b c => lap b c = false)
  full : (bs.map area).sum = W * G
theorem page_of_tiles {W G : Int} {bs : List Bx} (T : Tiles bs W G) (hw : 1 ≤ W) (hg : 1 ≤ G) (hl : bs.length ≤ 24) : Page W G bs := by
  have pos : 1 ≤ bs.length := by
    cases bs with
    | nil => have q := T.one 0 0 (by omega) (by omega) (by omega) (by omega); cases q
    | cons b bs => exact Nat.succ_pos _
  refine ⟨hw, hg, pos, hl, fun b hb => ⟨(T.wf b hb).h1, (T.wf b hb).v1⟩, fun b hb => ⟨(T.wf b hb).h0, (T.wf b hb).h2, (T.wf b hb).v0, (T.wf b hb).v2⟩, tiles_nolap T, ?_⟩
  obtain ⟨w, hw'⟩ := Int.eq_ofNat_of_zero_le (show 0 ≤ W by omega)
  obtain ⟨g, hg'⟩ := Int.eq_ofNat_of_zero_le (show 0 ≤ G by omega)
  subst hw' hg'
  exact area_of_tiles T
end Til
namespace Til
end Til
set_option linter.all false
namespace Til
end Til
set_option linter.all false
namespace Til
def flp (b : Bx) : Bx := ⟨b.t, b.l, b.b, b.r⟩
theorem inB_flp (b : Bx) (x y : Int) : inB (flp b) y x = inB b x y := by
  rw [Bool.eq_iff_iff, inB_iff, inB_iff]
  show b.t ≤ y ∧ y < b.b ∧ b.l ≤ x ∧ x < b.r ↔ _
  constructor
  · rintro ⟨a, b, c, d⟩; exact ⟨c, d, a, b⟩
  · rintro ⟨a, b, c, d⟩; exact ⟨c, d, a, b⟩
theorem cnt_flp : ∀ (bs : List Bx) (x y : Int), cnt (bs.map flp) y x = cnt bs x y
  | [], _, _ => rfl
  | b :: bs, x, y => by rw [List.map_cons, cnt_cons, cnt_cons, cnt_flp bs x y, inB_flp]
theorem tiles_flp {bs : List Bx} {n m : Int} (T : Tiles bs n m) : Tiles (bs.map flp) m n := by
  refine ⟨fun c hc => ?_, fun x y h1 h2 h3 h4 => ?_⟩
  · obtain ⟨b, hb, rfl⟩ := List.mem_map.mp hc
    obtain ⟨o1, o2, o3, o4, o5, o6⟩ := T.wf b hb
    exact ⟨o4, o5, o6, o1, o2, o3⟩
  · rw [cnt_flp]
    exact T.one y x h3 h4 h1 h2
end Til
set_option linter.all false
namespace Til
end Til
set_option linter.all false
namespace Til
end Til
set_option Elab.async false
set_option linter.all false
set_option maxRecDepth 100000
set_option maxHeartbeats 1000000
namespace L2
open PySem
def GI (mg : Str → Option Value) (x : Str) (n : Int) : Prop := ∃ t, mg x = some (.int n t)
theorem pe_gi {X : Cx} {x : Str} {n : Int} {pos : Pos} (hg : Gl X x) (h : GI X.mg x n) (hd : (x == ("__debug__" : Str)) = false := by decide) : PE X (.Name x pos) (tC (.int n)) := by
  obtain ⟨t, h⟩ := h
  exact pe_glob hg h ⟨t, rfl⟩ hd
end L2
namespace JC
open PySem L2 Til
def top (i : Nat) : Stmt := PySem.Challenge.pw_pagepart_k82_whole_tree_or_stuck.main.body.getD i (.Pass ⟨0, 0, 0, 0⟩)
abbrev sCellAt : Stmt := top 45
abbrev sLaw : Stmt := top 55
abbrev sWhole : Stmt := top 12
abbrev sLength : Stmt := top 13
abbrev sWheel : Stmt := top 47
abbrev sBox : Stmt := top 14
abbrev sAreB : Stmt := top 15
abbrev sWithin : Stmt := top 16
abbrev sOverlap : Stmt := top 17
abbrev sAny : Stmt := top 18
abbrev sArea : Stmt := top 19
abbrev sFill : Stmt := top 20
abbrev sTtl : Stmt := top 21
abbrev sMake : Stmt := top 22
abbrev sLboxes : Stmt := top 49
abbrev sMixed : Stmt := top 46
abbrev sHalves : Stmt := top 48
abbrev sPageOf : Stmt := top 50
abbrev sLiw : Stmt := top 30
abbrev sBin : Stmt := top 31
abbrev sLii : Stmt := top 32
abbrev sUnc : Stmt := top 33
abbrev sPac : Stmt := top 34
abbrev sPdn : Stmt := top 35
abbrev sPar : Stmt := top 36
abbrev sHasC : Stmt := top 37
abbrev sIsP : Stmt := top 42
abbrev sIsS : Stmt := top 43
abbrev sFst : Stmt := top 38
abbrev sWho : Stmt := top 29
abbrev sStk : Stmt := top 39
abbrev sTop : Stmt := top 40
abbrev sTof : Stmt := top 41
abbrev sLst : Stmt := top 54
abbrev sLhc : Stmt := top 51
abbrev sLwo : Stmt := top 52
abbrev sTog : Stmt := top 53
def bxV (b : Bx) : List V := [.int b.l, .int b.t, .int b.r, .int b.b]
def BoxAt (H : Hp) (v : V) (b : Bx) : Prop := ∃ p, v = .ref p ∧ H p = some (.tup (bxV b))
def BoxesAt (H : Hp) : List V → List Bx → Prop := Paired (BoxAt H)
theorem BoxAt.same {H H' : Hp} (S : Same H H') {v : V} {b : Bx} (h : BoxAt H v b) : BoxAt H' v b := let ⟨p, e, z⟩ := h; ⟨p, e, S _ _ z⟩
theorem BoxesAt.same {H H' : Hp} (S : Same H H') : ∀ {vs : List V} {bs : List Bx}, BoxesAt H vs bs → BoxesAt H' vs bs
  | _, _, .nil => .nil
  | _, _, .cons h t => .cons (h.same S) (BoxesAt.same S t)
theorem BoxesAt.len {H : Hp} {vs : List V} {bs : List Bx} (h : BoxesAt H vs bs) : vs.length = bs.length := Paired.length h
theorem BoxesAt.get {H : Hp} : ∀ {vs : List V} {bs : List Bx} {i : Nat} {b : Bx}, BoxesAt H vs bs → bs[i]? = some b → ∃ v, vs[i]? = some v ∧ BoxAt H v b
  | _, _, _, _, .nil, e => by simp at e
  | _, _, 0, _, .cons r _, e => by simp at e; subst e; exact ⟨_, rfl, r⟩
  | _, _, i + 1, b, .cons _ t, e => by
    obtain ⟨v, h1, h2⟩ := BoxesAt.get (i := i) (b := b) t (by simpa using e)
    exact ⟨v, by simpa using h1, h2⟩
theorem BoxesAt.append {H : Hp} : ∀ {vs us : List V} {bs cs : List Bx}, BoxesAt H vs bs → BoxesAt H us cs → BoxesAt H (vs ++ us) (bs ++ cs)
  | _, _, _, _, .nil, s => s
  | _, _, _, _, .cons r t, s => .cons r (BoxesAt.append t s)
theorem BoxesAt.take {H : Hp} : ∀ {vs : List V} {bs : List Bx} (n : Nat), BoxesAt H vs bs → BoxesAt H (vs.take n) (bs.take n)
  | _, _, 0, _ => .nil
  | _, _, _ + 1, .nil => .nil
  | _, _, n + 1, .cons r t => .cons r (BoxesAt.take n t)
theorem BoxesAt.drop {H : Hp} : ∀ {vs : List V} {bs : List Bx} (n : Nat), BoxesAt H vs bs → BoxesAt H (vs.drop n) (bs.drop n)
  | _, _, 0, r => r
  | _, _, _ + 1, .nil => .nil
  | _, _, n + 1, .cons _ t => BoxesAt.drop n t
structure Callee (P : Program) (w : World) (K : PySem.W.Frag) (mg : Str → Option Value) (base : Heap) (CX : CXT) (k : Nat) (x : Str) (f : Addr) (fd : FuncData) (ps : List Str) (sp : Sp) : Prop where
  ok : FnOk P w K mg base CX k f fd ps sp
  bound : mg x = some (.ref f)
  kp : PySem.W.keepIn K (.ref f) = true
  bd : Binds K fd ps []
theorem at_map {ns : List Int} {k : Int} (h0 : 0 ≤ k) (h1 : k < ns.length) : atI (ns.map V.int) k = some (.int (ns.getD k.toNat 0)) := by
  obtain ⟨j, rfl⟩ := Int.eq_ofNat_of_zero_le h0
  refine atI_nat ?_
  rw [List.getElem?_map, List.getElem?_eq_getElem (by omega)]
  simp [List.getD, show j < ns.length by omega]
theorem same_upd {H H1 : Hp} {l : Addr} {o : HO} (S : Same H H1) (hn : H l = none) : Same H (upd H1 l o) := fun b u e => by
  rw [upd_ne (ne_of_none e hn)]
  exact S b u e
theorem same_new {H : Hp} {p : Addr} {o : HO} (hn : H p = none) : Same H (upd H p o) := fun b u e => by
  rw [upd_ne (ne_of_none e hn)]
  exact e
section
variable {σ : St} {H : Hp} {D : Ends}
theorem seq_via {t u : TS} (G : St → Hp → Prop) (a : ∀ N : St → Hp → Prop, (∀ σ H, G σ H → N σ H) → t { D with nx := N } σ H) (b : ∀ σ H, G σ H → u D σ H) : tSeq t u D σ H := a (u D) b
theorem run_gname {i : Nat} {v : V} {Q : St → Hp → Prop} (h : Q (σ.set i (some v)) H) : gName i v σ H Q := h
theorem seq_lst {t : TA} {i : Nat} {u : TS} (h : t σ H fun xs H1 => xs.length ≤ sizeLine ∧ ∀ p, H1 p = none → u D (σ.set i (some (.ref p))) (upd H1 p (.lst xs))) : tSeq (tAsg (tLst t) (gName i)) u D σ H := h
end
theorem box_four {H : Hp} {p : Addr} {b : Bx} (h : H p = some (.tup (bxV b))) (K : PySem.W.Frag) : SqT K H p [.int b.l, .int b.t, .int b.r, .int b.b] := SqT.of h
theorem tiles_pos {bs : List Bx} {n m : Int} (T : Tiles bs n m) (hn : 0 < n) (hm : 0 < m) : 0 < bs.length := by
  cases bs with
  | nil =>
    have q := T.one 0 0 (by omega) hn (by omega) hm
    cases q
  | cons b bs => exact Nat.succ_pos _
theorem cutV_take (xs : List V) (k : Nat) (h : k ≤ xs.length) : cutV xs none (some (k : Int)) = xs.take k := by
  unfold cutV
  rw [HT.sIx_none, HT.sIx_nat, List.drop_zero, Nat.sub_zero, Nat.min_eq_left h]
theorem cutV_drop (xs : List V) (k : Nat) (h : k ≤ xs.length) : cutV xs (some (k : Int)) none = xs.drop k := by
  unfold cutV
  rw [HT.sIx_none, HT.sIx_nat, Nat.min_eq_left h]
  exact List.take_of_length_le (by rw [List.length_drop]; exact Nat.le_refl _)
theorem int_at {ns : List Int} {i : Nat} {y : V} (h : (ns.map V.int)[i]? = some y) : ∃ z, y = V.int z ∧ ns[i]? = some z := by
  rw [List.getElem?_map] at h
  cases e : ns[i]? with
  | none => rw [e] at h; cases h
  | some z => rw [e] at h; exact ⟨z, (Option.some.inj h).symm, rfl⟩
end JC
set_option linter.all false
namespace Til
end Til
set_option linter.all false
namespace Til
end Til
set_option linter.all false
namespace Til
end Til
namespace Til
end Til
set_option linter.all false
namespace Til
section
variable {cs : List Bx} {ws us : List Tr} {W G : Int} (T : Tiles cs W G)
theorem box_one (T : Tiles cs W G) {b c : Bx} {x y : Int} (hb : b ∈ cs) (hc : c ∈ cs) (ib : inB b x y = true) (ic : inB c x y = true) : b = c := by
  have o := T.wf b hb
  have i := inB_iff.mp ib
  obtain ⟨k, d, _, _, uni⟩ := tiles_find T (x := x) (y := y) (by have := o.h0; omega) (by have := o.h2; omega) (by have := o.v0; omega) (by have := o.v2; omega)
  obtain ⟨p, hp⟩ := List.mem_iff_getElem?.mp hb
  obtain ⟨q, hq⟩ := List.mem_iff_getElem?.mp hc
  have e1 := uni p b hp ib
  have e2 := uni q c hq ic
  rw [e1] at hp
  rw [e2, hp] at hq
  exact Option.some.inj hq
end
end Til
set_option Elab.async false
set_option linter.all false
namespace Til
def wthn (p b : Bx) : Bool := (decide (p.l ≤ b.l) && decide (b.r ≤ p.r)) && (decide (p.t ≤ b.t) && decide (b.b ≤ p.b))
theorem wthn_iff {p b : Bx} : wthn p b = true ↔ p.l ≤ b.l ∧ b.r ≤ p.r ∧ p.t ≤ b.t ∧ b.b ≤ p.b := by
  unfold wthn
  simp [and_assoc]
def shf (p b : Bx) : Bx := ⟨b.l - p.l, b.t - p.t, b.r - p.l, b.b - p.t⟩
theorem cnt_shf (p : Bx) (bs : List Bx) (x y : Int) : cnt (bs.map (shf p)) x y = cnt bs (x + p.l) (y + p.t) := by
  unfold cnt
  rw [List.countP_map]
  refine List.countP_congr fun b _ => ?_
  show inB (shf p b) x y = true ↔ _
  rw [inB_iff, inB_iff]
  unfold shf
  dsimp only
  omega
theorem area_shf (p : Bx) (bs : List Bx) : ((bs.map (shf p)).map area).sum = (bs.map area).sum := by
  rw [List.map_map]
  congr 1
  refine List.map_congr_left fun b _ => ?_
  show area (shf p b) = area b
  unfold area shf
  dsimp only
  congr 1 <;> omega
theorem cnt_filter_le (q : Bx → Bool) (bs : List Bx) (x y : Int) : cnt (bs.filter q) x y ≤ cnt bs x y := by
  unfold cnt
  exact (List.filter_sublist (l := bs)).countP_le
theorem cnt_one_le {cs : List Bx} {W G : Int} (T : Tiles cs W G) (x y : Int) : cnt cs x y ≤ 1 := by
  by_cases h : 0 ≤ x ∧ x < W ∧ 0 ≤ y ∧ y < G
  · rw [T.one x y h.1 h.2.1 h.2.2.1 h.2.2.2]
    exact Nat.le_refl _
  · have : cnt cs x y = 0 := by
      unfold cnt
      rw [List.countP_eq_zero]
      intro b hb hin
      have o := T.wf b hb
      have i := inB_iff.mp hin
      have := o.h0; have := o.h2; have := o.v0; have := o.v2
      omega
    omega
theorem cnt_mem {bs : List Bx} {x y : Int} (h : cnt bs x y = 1) : ∃ b ∈ bs, inB b x y = true := by
  unfold cnt at h
  have : 0 < bs.countP (inB · x y) := by omega
  exact List.countP_pos_iff.mp this
structure Piece (cs : List Bx) (p : Bx) : Prop where
  wide : p.l < p.r
  high : p.t < p.b
  fill : ∀ x y, p.l ≤ x → x < p.r → p.t ≤ y → y < p.b → ∃ b ∈ cs, wthn p b = true ∧ inB b x y = true
section
variable {cs : List Bx} {W G : Int} {p : Bx}
theorem shf_ok (T : Tiles cs W G) (w : p.l < p.r) (h : p.t < p.b) : ∀ b ∈ (cs.filter (wthn p)).map (shf p), Ok ((p.r - p.l).toNat : Nat) ((p.b - p.t).toNat : Nat) b := by
  intro b hb
  obtain ⟨c, hc, rfl⟩ := List.mem_map.mp hb
  obtain ⟨hc, hw⟩ := List.mem_filter.mp hc
  have o := T.wf c hc
  have i := wthn_iff.mp hw
  have := o.h1; have := o.v1
  unfold shf
  exact ⟨by dsimp only; omega, by dsimp only; omega, by dsimp only; omega, by dsimp only; omega, by dsimp only; omega, by dsimp only; omega⟩
theorem piece_area (T : Tiles cs W G) (w : p.l < p.r) (h : p.t < p.b) : (((cs.filter (wthn p)).map area).sum = area p) ↔ Piece cs p := by
  have e : area p = ((p.r - p.l).toNat : Nat) * ((p.b - p.t).toNat : Nat) := by
    unfold area
    rw [Int.toNat_of_nonneg (by omega), Int.toNat_of_nonneg (by omega)]
  have one : ∀ x y, cnt ((cs.filter (wthn p)).map (shf p)) x y ≤ 1 := fun x y => by
    rw [cnt_shf]
    exact Nat.le_trans (cnt_filter_le _ _ _ _) (cnt_one_le T _ _)
  constructor
  · intro s
    rw [← area_shf p, e] at s
    have U := tiles_of_area (shf_ok T w h) one s
    refine ⟨w, h, fun x y x1 x2 y1 y2 => ?_⟩
    have c := U.one (x - p.l) (y - p.t) (by omega) (by rw [Int.toNat_of_nonneg (by omega)]; omega) (by omega) (by rw [Int.toNat_of_nonneg (by omega)]; omega)
    rw [cnt_shf, Int.sub_add_cancel, Int.sub_add_cancel] at c
    obtain ⟨b, hb, hi⟩ := cnt_mem c
    obtain ⟨hb, hw⟩ := List.mem_filter.mp hb
    exact ⟨b, hb, hw, hi⟩
  · intro P
    have U : Tiles ((cs.filter (wthn p)).map (shf p)) ((p.r - p.l).toNat : Nat) ((p.b - p.t).toNat : Nat) := by
      refine ⟨shf_ok T w h, fun x y x1 x2 y1 y2 => ?_⟩
      rw [Int.toNat_of_nonneg (by omega)] at x2 y2
      obtain ⟨b, hb, hw, hi⟩ := P.fill (x + p.l) (y + p.t) (by omega) (by omega) (by omega) (by omega)
      have := one x y
      rw [cnt_shf] at this ⊢
      have pos : 0 < cnt (cs.filter (wthn p)) (x + p.l) (y + p.t) := List.countP_pos_iff.mpr ⟨b, List.mem_filter.mpr ⟨hb, hw⟩, hi⟩
      omega
    have := area_of_tiles U
    rw [area_shf] at this
    rw [this, e]
theorem piece_iff (T : Tiles cs W G) : Piece cs p ↔ (0 ≤ p.l ∧ p.l < p.r ∧ p.r ≤ W) ∧ (0 ≤ p.t ∧ p.t < p.b ∧ p.b ≤ G) ∧ ∀ b ∈ cs, lap b p = true → wthn p b = true := by
  constructor
  · intro P
    have w := P.wide
    have h := P.high
    obtain ⟨b, hb, _, hi⟩ := P.fill p.l p.t (by omega) (by omega) (by omega) (by omega)
    obtain ⟨c, hc, _, hj⟩ := P.fill (p.r - 1) (p.b - 1) (by omega) (by omega) (by omega) (by omega)
    have o := T.wf b hb
    have o2 := T.wf c hc
    have i := inB_iff.mp hi
    have j := inB_iff.mp hj
    have := o.h0; have := o.v0; have := o2.h2; have := o2.v2
    refine ⟨⟨by omega, w, by omega⟩, ⟨by omega, h, by omega⟩, fun d hd hl => ?_⟩
    unfold lap at hl
    simp only [Bool.and_eq_true, decide_eq_true_eq] at hl
    have od := T.wf d hd
    have := od.h1; have := od.v1
    obtain ⟨x, hx⟩ : ∃ x, x = max d.l p.l := ⟨_, rfl⟩
    obtain ⟨y, hy⟩ : ∃ y, y = max d.t p.t := ⟨_, rfl⟩
    obtain ⟨c, hc, hw, hj⟩ := P.fill x y (by omega) (by omega) (by omega) (by omega)
    have : inB d x y = true := inB_iff.mpr ⟨by omega, by omega, by omega, by omega⟩
    rw [box_one T hd hc this hj]
    exact hw
  · rintro ⟨⟨h1, h2, h3⟩, ⟨h4, h5, h6⟩, all⟩
    refine ⟨h2, h5, fun x y x1 x2 y1 y2 => ?_⟩
    obtain ⟨b, hb, hi⟩ := cnt_mem (T.one x y (by omega) (by omega) (by omega) (by omega))
    exact ⟨b, hb, all b hb (lap_of hi (inB_iff.mpr ⟨x1, x2, y1, y2⟩)), hi⟩
def CutX (cs : List Bx) (p : Bx) (e : Int) : Prop := p.l < e ∧ e < p.r ∧ ∀ b ∈ cs, wthn p b = true → ¬ (b.l < e ∧ e < b.r)
theorem cut_left (P : Piece cs p) {e : Int} (c : CutX cs p e) : ∃ b ∈ cs, wthn p b = true ∧ b.l = e := by
  obtain ⟨b, hb, hw, hi⟩ := P.fill e p.t (by have := c.1; omega) c.2.1 (Int.le_refl _) P.high
  have i := inB_iff.mp hi
  have := c.2.2 b hb hw
  exact ⟨b, hb, hw, by omega⟩
theorem ends_left (P : Piece cs p) : ∃ b ∈ cs, wthn p b = true ∧ b.l = p.l := by
  obtain ⟨b, hb, hw, hi⟩ := P.fill p.l p.t (Int.le_refl _) P.wide (Int.le_refl _) P.high
  have i := inB_iff.mp hi
  have j := wthn_iff.mp hw
  exact ⟨b, hb, hw, by omega⟩
theorem ends_right (P : Piece cs p) : ∃ b ∈ cs, wthn p b = true ∧ b.r = p.r := by
  obtain ⟨b, hb, hw, hi⟩ := P.fill (p.r - 1) p.t (by have := P.wide; omega) (by omega) (Int.le_refl _) P.high
  have i := inB_iff.mp hi
  have j := wthn_iff.mp hw
  exact ⟨b, hb, hw, by omega⟩
theorem piece_one (T : Tiles cs W G) (P : Piece cs p) : p ∈ cs ↔ ∀ b ∈ cs, ∀ c ∈ cs, wthn p b = true → wthn p c = true → b = c := by
  constructor
  · intro hp
    have all : ∀ b ∈ cs, wthn p b = true → b = p := fun b hb hw => by
      have o := T.wf b hb
      have i := wthn_iff.mp hw
      have := o.h1; have := o.v1
      exact box_one T hb hp (x := b.l) (y := b.t) (inB_iff.mpr ⟨by omega, by omega, by omega, by omega⟩) (inB_iff.mpr ⟨by omega, by omega, by omega, by omega⟩)
    intro b hb c hc h1 h2
    rw [all b hb h1, all c hc h2]
  · intro h
    have w := P.wide
    have g := P.high
    obtain ⟨b, hb, hw, hi⟩ := P.fill p.l p.t (by omega) (by omega) (by omega) (by omega)
    obtain ⟨c, hc, hw2, hj⟩ := P.fill (p.r - 1) (p.b - 1) (by omega) (by omega) (by omega) (by omega)
    have e := h b hb c hc hw hw2
    subst e
    have i := inB_iff.mp hi
    have j := inB_iff.mp hj
    have k := wthn_iff.mp hw
    have : b = p := by
      obtain ⟨l, t, r, d⟩ := b
      obtain ⟨l2, t2, r2, d2⟩ := p
      dsimp only at *
      congr <;> omega
    rw [← this]
    exact hb
end
end Til
set_option Elab.async false
set_option linter.all false
namespace Til
def acr (bs : List Bx) (e : Int) : Bool := bs.any fun b => decide (b.l < e) && decide (e < b.r)
theorem acr_iff {bs : List Bx} {e : Int} : acr bs e = true ↔ ∃ b ∈ bs, b.l < e ∧ e < b.r := by
  unfold acr
  simp
section
variable {cs : List Bx} {W G : Int} {p : Bx} {ms : List Int}
theorem uncut_mem (P : Piece cs p) (mem : ∀ z, z ∈ ms ↔ z ∈ (cs.filter (wthn p)).map (·.l) ++ (cs.filter (wthn p)).map (·.r)) (wf : ∀ b ∈ cs, b.l < b.r) {e : Int} : e ∈ ms.filter (fun e => !acr (cs.filter (wthn p)) e) ↔ e = p.l ∨ e = p.r ∨ CutX cs p e := by
  have inside : ∀ b ∈ cs.filter (wthn p), b ∈ cs ∧ wthn p b = true ∧ p.l ≤ b.l ∧ b.l < b.r ∧ b.r ≤ p.r := fun b hb => by
    obtain ⟨h1, h2⟩ := List.mem_filter.mp hb
    have i := wthn_iff.mp h2
    exact ⟨h1, h2, i.1, wf b h1, i.2.1⟩
  have un : ∀ e : Int, (!acr (cs.filter (wthn p)) e) = true ↔ ∀ b ∈ cs, wthn p b = true → ¬ (b.l < e ∧ e < b.r) := fun e => by
    rw [Bool.not_eq_true', ← Bool.not_eq_true, acr_iff]
    constructor
    · intro h b hb hw z
      exact h ⟨b, List.mem_filter.mpr ⟨hb, hw⟩, z⟩
    · rintro h ⟨b, hb, z⟩
      exact h b (inside b hb).1 (inside b hb).2.1 z
  rw [List.mem_filter, mem, List.mem_append, un]
  constructor
  · rintro ⟨h, u⟩
    by_cases e1 : e = p.l
    · exact .inl e1
    by_cases e2 : e = p.r
    · exact .inr (.inl e2)
    refine .inr (.inr ?_)
    rcases h with h | h <;> obtain ⟨b, hb, rfl⟩ := List.mem_map.mp h <;> have := inside b hb
    · exact ⟨by omega, by omega, u⟩
    · exact ⟨by omega, by omega, u⟩
  · rintro (rfl | rfl | c)
    · obtain ⟨b, hb, hw, e⟩ := ends_left P
      refine ⟨.inl (List.mem_map.mpr ⟨b, List.mem_filter.mpr ⟨hb, hw⟩, e⟩), fun c hc hw z => ?_⟩
      have := (wthn_iff.mp hw).1
      omega
    · obtain ⟨b, hb, hw, e⟩ := ends_right P
      refine ⟨.inr (List.mem_map.mpr ⟨b, List.mem_filter.mpr ⟨hb, hw⟩, e⟩), fun c hc hw z => ?_⟩
      have := (wthn_iff.mp hw).2.1
      omega
    · obtain ⟨b, hb, hw, e⟩ := cut_left P c
      exact ⟨.inl (List.mem_map.mpr ⟨b, List.mem_filter.mpr ⟨hb, hw⟩, e⟩), c.2.2⟩
theorem three {us : List Int} (up : us.Pairwise (· < ·)) {a b : Int} (hab : a < b) (ha : a ∈ us) (hb : b ∈ us) : 3 ≤ us.length ↔ ∃ e ∈ us, e ≠ a ∧ e ≠ b := by
  match us, up with
  | [], _ => cases ha
  | [x], _ =>
    rw [List.mem_singleton] at ha hb
    omega
  | [x, y], up =>
    have xy : x < y := (List.pairwise_cons.mp up).1 y (by simp)
    have ea : a = x := by
      rcases List.mem_cons.mp ha with h | h
      · exact h
      · rw [List.mem_singleton] at h
        rcases List.mem_cons.mp hb with h2 | h2
        · omega
        · rw [List.mem_singleton] at h2; omega
    have eb : b = y := by
      rcases List.mem_cons.mp hb with h2 | h2
      · omega
      · exact List.mem_singleton.mp h2
    refine ⟨fun h => absurd h (by simp), fun ⟨e, he, n1, n2⟩ => ?_⟩
    rcases List.mem_cons.mp he with h | h
    · omega
    · rw [List.mem_singleton] at h; omega
  | x :: y :: z :: l, up =>
    refine ⟨fun _ => ?_, fun _ => by simp⟩
    obtain ⟨u1, u2⟩ := List.pairwise_cons.mp up
    have xy := u1 y (by simp)
    have xz := u1 z (by simp)
    have yz : y < z := (List.pairwise_cons.mp u2).1 z (by simp)
    by_cases h1 : x ≠ a ∧ x ≠ b
    · exact ⟨x, by simp, h1⟩
    by_cases h2 : y ≠ a ∧ y ≠ b
    · exact ⟨y, by simp, h2⟩
    · exact ⟨z, by simp, by omega, by omega⟩
theorem filter_up {us : List Int} (up : us.Pairwise (· < ·)) (q : Int → Bool) : (us.filter q).Pairwise (· < ·) := List.Pairwise.sublist List.filter_sublist up
theorem uncut_cut (P : Piece cs p) (wf : ∀ b ∈ cs, b.l < b.r) (up : ms.Pairwise (· < ·)) (mem : ∀ z, z ∈ ms ↔ z ∈ (cs.filter (wthn p)).map (·.l) ++ (cs.filter (wthn p)).map (·.r)) : 3 ≤ (ms.filter fun e => !acr (cs.filter (wthn p)) e).length ↔ ∃ e, CutX cs p e := by
  rw [three (filter_up up _) P.wide ((uncut_mem P mem wf).mpr (.inl rfl)) ((uncut_mem P mem wf).mpr (.inr (.inl rfl)))]
  constructor
  · rintro ⟨e, he, n1, n2⟩
    rcases (uncut_mem P mem wf).mp he with h | h | h
    · exact absurd h n1
    · exact absurd h n2
    · exact ⟨e, h⟩
  · rintro ⟨e, c⟩
    exact ⟨e, (uncut_mem P mem wf).mpr (.inr (.inr c)), by have := c.1; omega, by have := c.2.1; omega⟩
end
end Til
set_option Elab.async false
set_option linter.all false
namespace Til
end Til
set_option Elab.async false
set_option linter.all false
namespace Stb
open PySem
def Rise (xs : Array Nat) : Prop := xs.toList.Pairwise (· < ·)
theorem Rise.lt {xs : Array Nat} (r : Rise xs) {i j a b : Nat} (h : i < j) (ha : xs[i]? = some a) (hb : xs[j]? = some b) : a < b := by
  rw [← Array.getElem?_toList] at ha hb
  obtain ⟨hi, ea⟩ := List.getElem?_eq_some_iff.mp ha
  obtain ⟨hj, eb⟩ := List.getElem?_eq_some_iff.mp hb
  have := List.pairwise_iff_getElem.mp r i j hi hj h
  rw [ea, eb] at this
  exact this
theorem go_spec {xs : Array Nat} {j : Nat} (r : Rise xs) : ∀ (f lo hi : Nat), hi - lo ≤ f → lo ≤ hi → hi ≤ xs.size → (∀ i a, i < lo → xs[i]? = some a → a < j) → (∀ i a, hi ≤ i → xs[i]? = some a → j ≤ a) →
    SetTable.below.go xs j f lo hi ≤ xs.size ∧ (∀ i a, i < SetTable.below.go xs j f lo hi → xs[i]? = some a → a < j) ∧ (∀ i a, SetTable.below.go xs j f lo hi ≤ i → xs[i]? = some a → j ≤ a) := by
  intro f
  induction f with
  | zero =>
    intro lo hi h1 h2 h3 hl hh
    rw [SetTable.below.go]
    have : lo = hi := by omega
    subst this
    exact ⟨h3, hl, hh⟩
  | succ f ih =>
    intro lo hi h1 h2 h3 hl hh
    rw [SetTable.below.go]
    by_cases h : lo < hi
    · rw [if_pos h]
      have hm : (lo + hi) / 2 < xs.size := by omega
      have e : xs[(lo + hi) / 2]? = some (xs.getD ((lo + hi) / 2) j) := by
        rw [Array.getElem?_eq_getElem hm, Array.getD, dif_pos hm]
        rfl
      dsimp only
      by_cases hc : xs.getD ((lo + hi) / 2) j < j
      · rw [if_pos hc]
        refine ih _ _ (by omega) (by omega) h3 (fun i a hi' ea => ?_) hh
        by_cases e2 : i = (lo + hi) / 2
        · subst e2
          rw [e] at ea
          injection ea with ea
          omega
        · have := r.lt (show i < (lo + hi) / 2 by omega) ea e
          omega
      · rw [if_neg hc]
        refine ih _ _ (by omega) (by omega) (by omega) hl (fun i a hi' ea => ?_)
        by_cases e2 : i = (lo + hi) / 2
        · subst e2
          rw [e] at ea
          injection ea with ea
          omega
        · have := r.lt (show (lo + hi) / 2 < i by omega) e ea
          omega
    · rw [if_neg h]
      have : lo = hi := by omega
      subst this
      exact ⟨h3, hl, hh⟩
theorem below_spec {xs : Array Nat} (j : Nat) (r : Rise xs) : SetTable.below xs j ≤ xs.size ∧ (∀ i a, i < SetTable.below xs j → xs[i]? = some a → a < j) ∧ (∀ i a, SetTable.below xs j ≤ i → xs[i]? = some a → j ≤ a) :=
  go_spec r _ _ _ (by omega) (Nat.zero_le _) (Nat.le_refl _) (fun i _ h _ => absurd h (Nat.not_lt_zero _)) (fun i a h e => by
    rw [Array.getElem?_eq_none h] at e
    cases e)
theorem below_at {xs : Array Nat} (r : Rise xs) {i a : Nat} (h : xs[i]? = some a) : SetTable.below xs (a + 1) = i + 1 := by
  obtain ⟨h1, h2, h3⟩ := below_spec (a + 1) r
  have hi : i < xs.size := (Array.getElem?_eq_some_iff.mp h).1
  refine Nat.le_antisymm (Nat.not_lt.mp fun z => ?_) (Nat.not_lt.mp fun z => ?_)
  · have hz : i + 1 < xs.size := by omega
    have e := Array.getElem?_eq_getElem hz
    have a1 := h2 _ _ z e
    have a2 := r.lt (Nat.lt_succ_self i) h e
    omega
  · have := h3 _ _ (show SetTable.below xs (a + 1) ≤ i by omega) h
    omega
theorem below_zero {xs : Array Nat} (r : Rise xs) : SetTable.below xs 0 = 0 := by
  obtain ⟨h1, h2, h3⟩ := below_spec 0 r
  refine Nat.le_antisymm (Nat.not_lt.mp fun z => ?_) (Nat.zero_le _)
  have hz : 0 < xs.size := by omega
  exact absurd (h2 _ _ z (Array.getElem?_eq_getElem hz)) (Nat.not_lt_zero _)
theorem rise_insert {xs : Array Nat} {j : Nat} (r : Rise xs) (n : xs[SetTable.below xs j]? ≠ some j) : Rise (SetTable.insertAt xs (SetTable.below xs j) j) := by
  obtain ⟨h1, h2, h3⟩ := below_spec j r
  generalize SetTable.below xs j = p at n h1 h2 h3
  unfold Rise SetTable.insertAt
  have e : ((xs.extract 0 p).push j ++ xs.extract p xs.size).toList = xs.toList.take p ++ j :: xs.toList.drop p := by
    simp only [Array.toList_append, Array.toList_push, Array.toList_extract, List.extract_eq_drop_take, List.drop_zero, Nat.sub_zero, List.append_assoc, List.singleton_append]
    rw [List.take_of_length_le (l := xs.toList.drop p) (by rw [List.length_drop, Array.length_toList]; exact Nat.le_refl _)]
  rw [e]
  rw [List.pairwise_append, List.pairwise_cons]
  refine ⟨List.Pairwise.sublist (List.take_sublist _ _) r, ⟨fun b hb => ?_, List.Pairwise.sublist (List.drop_sublist _ _) r⟩, fun a ha b hb => ?_⟩
  · obtain ⟨i, hi, rfl⟩ := List.mem_iff_getElem.mp hb
    rw [List.getElem_drop]
    rw [List.length_drop, Array.length_toList] at hi
    have eb : xs[p + i]? = some (xs.toList[p + i]'(by rw [Array.length_toList]; omega)) := by
      rw [← Array.getElem?_toList, List.getElem?_eq_getElem (by rw [Array.length_toList]; omega)]
    have le := h3 _ _ (Nat.le_add_right p i) eb
    refine Nat.lt_of_le_of_ne le fun z => ?_
    by_cases e0 : i = 0
    · subst e0
      exact n (eb.trans (congrArg some z.symm))
    · have hp : p < xs.size := by omega
      have ep := Array.getElem?_eq_getElem hp
      have a1 := h3 _ _ (Nat.le_refl p) ep
      have a2 := r.lt (show p < p + i by omega) ep eb
      omega
  · have ha' : a < j := by
      obtain ⟨i, hi, rfl⟩ := List.mem_iff_getElem.mp ha
      rw [List.getElem_take]
      rw [List.length_take, Array.length_toList] at hi
      refine h2 i _ (by omega) ?_
      rw [← Array.getElem?_toList, List.getElem?_eq_getElem]
    rcases List.mem_cons.mp hb with rfl | hb
    · exact ha'
    · refine Nat.lt_of_lt_of_le ha' ?_
      obtain ⟨i, hi, rfl⟩ := List.mem_iff_getElem.mp hb
      rw [List.getElem_drop]
      rw [List.length_drop, Array.length_toList] at hi
      refine h3 (p + i) _ (Nat.le_add_right _ _) ?_
      rw [← Array.getElem?_toList, List.getElem?_eq_getElem]
theorem probe_free {t : SetTable} {at_ : Nat → Int} {h : Int} : ∀ (f : Nat) (p : SetTable.Probe) (j : Nat) (d : Option Nat), (∀ d, p.dummy = some d → ∀ i, t.slot d ≠ .live i) → SetTable.probe.go t at_ h f p = some (.empty j d) → ∀ i, t.slot (d.getD j) ≠ .live i := by
  intro f
  induction f with
  | zero =>
    intro p j d _ e
    rw [SetTable.probe.go] at e
    cases e
  | succ f ih =>
    intro p j d hd e
    rw [SetTable.probe.go] at e
    have adv : ∀ q : SetTable.Probe, (t.advance q).dummy = q.dummy := by
      intro q
      unfold SetTable.advance
      split <;> rfl
    cases hs : t.slot p.j with
    | empty =>
      rw [hs] at e
      injection e with e
      injection e with e1 e2
      subst e1; subst e2
      intro i
      cases hp : p.dummy with
      | none => rw [Option.getD_none, hs]; intro z; cases z
      | some d => exact hd d hp i
    | dummy =>
      rw [hs] at e
      refine ih _ _ _ (fun d' hd' i => ?_) e
      rw [adv] at hd'
      injection hd' with hd'
      subst hd'
      rw [hs]
      intro z
      cases z
    | live i0 =>
      rw [hs] at e
      dsimp only at e
      split at e
      · injection e with e
        cases e
      · refine ih _ _ _ (fun d' hd' => ?_) e
        rw [adv] at hd'
        exact hd d' hd'
theorem free_slot {t : SetTable} {h : Int} {s : Nat} {b : Bool} (e : t.freeSlot h = some (s, b)) : ∀ i, t.slot s ≠ .live i := by
  unfold SetTable.freeSlot SetTable.probe at e
  split at e
  · next j d hp =>
    injection e with e
    injection e with e1 _
    subst e1
    exact probe_free _ _ _ _ (fun d hd => by cases hd) hp
  · cases e
structure Tg (b : Bool) (t : SetTable) : Prop where
  led : t.led = b
  rise : t.plain = true → Rise t.place
theorem tg_fresh {b : Bool} : Tg b (.fresh 0 0 b) := ⟨rfl, fun _ => List.Pairwise.nil⟩
theorem tg_standIn {b : Bool} {t : SetTable} {n : Nat} (g : Tg b t) : Tg b (t.standIn n) := ⟨g.led, fun z => by cases z⟩
theorem tg_off {b : Bool} {t : SetTable} (g : Tg b t) : Tg b { t with plain := false } := ⟨g.led, fun z => by cases z⟩
theorem tg_layNew {b : Bool} {t : SetTable} (es : Array (Int × Value)) (h : Int) (x : Value) (g : Tg b t) : Tg b (layNew t es h x).2.1 := by
  unfold layNew
  split
  · next s wd e =>
    have nl := free_slot e
    have gp : Tg b (t.put s).1 := by
      refine ⟨g.led, fun hp => rise_insert (g.rise hp) fun z => ?_⟩
      refine nl (SetTable.below t.place s) ?_
      unfold SetTable.slot
      rw [if_pos (by rw [z]; exact beq_self_eq_true _)]
    dsimp only
    unfold SetTable.orStandIn
    split
    · exact gp
    · exact tg_standIn gp
  · exact tg_standIn g
theorem rise_live (f : Nat → Option Nat) : ∀ (l : List Nat), l.Pairwise (· < ·) → ((l.filterMap fun j => (f j).map (j, ·)).map (·.1)).Pairwise (· < ·) ∧ ∀ a ∈ (l.filterMap fun j => (f j).map (j, ·)).map (·.1), a ∈ l := by
  intro l
  induction l with
  | nil => intro _; exact ⟨List.Pairwise.nil, fun a h => h⟩
  | cons k l ih =>
    intro h
    obtain ⟨h1, h2⟩ := List.pairwise_cons.mp h
    obtain ⟨i1, i2⟩ := ih h2
    rw [List.filterMap_cons]
    cases f k with
    | none => exact ⟨i1, fun a ha => List.mem_cons_of_mem _ (i2 a ha)⟩
    | some v =>
      refine ⟨List.pairwise_cons.mpr ⟨fun b hb => h1 b (i2 b hb), i1⟩, fun a ha => ?_⟩
      rcases List.mem_cons.mp ha with rfl | ha
      · exact List.mem_cons_self
      · exact List.mem_cons_of_mem _ (i2 a ha)
theorem tg_relay {b : Bool} {t : SetTable} (es : Array (Int × Value)) (n : Nat) (g : Tg b t) : Tg b (relayAll t es n).2.1 := by
  unfold relayAll
  split
  · next t' o e =>
    dsimp only
    split
    · unfold SetTable.relaid SetTable.laid at e
      cases hl : SetTable.layClean (SetTable.sizeAbove n - 1) (es.map (·.1)) with
      | none => rw [hl] at e; cases e
      | some w =>
        rw [hl] at e
        injection e with e
        injection e with e1 _
        subst e1
        exact ⟨g.led, fun _ => (rise_live _ _ List.pairwise_lt_range).1⟩
    · exact tg_standIn g
  · exact tg_standIn g
end Stb
set_option Elab.async false
set_option linter.all false
set_option maxRecDepth 100000
namespace L2
open PySem PySem.Spec PyProof.Rows PySem.W
end L2
set_option Elab.async false
set_option linter.all false
set_option maxRecDepth 100000
set_option maxHeartbeats 4000000
namespace L2
open PySem PySem.Spec PyProof.Rows
end L2
set_option Elab.async false
set_option linter.all false
set_option maxRecDepth 100000
namespace L2
open PySem PySem.Spec PyProof.Rows PySem.W
end L2
set_option Elab.async false
set_option linter.all false
set_option maxRecDepth 100000
namespace L2
open PySem PySem.Spec PyProof.Rows PySem.W
end L2
set_option Elab.async false
set_option linter.all false
set_option maxRecDepth 100000
namespace L2
open PySem PySem.Spec PyProof.Rows PySem.W
section
variable {prog : Program} {w : World} {K : Type} [DecidableEq K] (knd : PySem.KeyKind prog w K)
def SetG (h : Heap) (a : Addr) (S : K → Bool) (n : Nat) : Prop :=
  ∃ (o : Obj) (es : Array (Int × Value)) (ep : Nat) (t : SetTable), h.get? a = some o ∧ o.ExactSet ∧ o.data = .set es ep t ∧ ElemsOf knd es.toList ∧ (∀ k, S k = true ↔ ∃ e ∈ es.toList, knd.is k e.2 = true) ∧ es.size < scanBound ∧ t.fits es.size = true ∧ es.size = n ∧ Stb.Tg (!w.params.followText "set-order") t
variable {knd} {A : Around} {E : Value → Shared → Prop} {s : Shared}
theorem SetG.congr {h : Heap} {a : Addr} {S S' : K → Bool} {n n' : Nat} (g : SetG knd h a S n) (e : ∀ k, S k = S' k) (en : n = n') : SetG knd h a S' n' := by
  have : S = S' := funext e
  subst this; subst en; exact g
theorem SetG.keep {h h' : Heap} {a : Addr} {S : K → Bool} {n : Nat} (g : SetG knd h a S n) (k : ∀ o, h.get? a = some o → h'.get? a = some o) : SetG knd h' a S n :=
  let ⟨o, es, ep, t, ho, r⟩ := g
  ⟨o, es, ep, t, k o ho, r⟩
theorem setg_store {h : Heap} {a : Addr} {o : Obj} {es es1 : Array (Int × Value)} {ep : Nat} {t t1 : SetTable} {S1 : K → Bool} (p : h.get? a = some o) (x : o.ExactSet) (d : o.data = .set es ep t) (el : ElemsOf knd es1.toList)
    (me : ∀ k, S1 k = true ↔ ∃ e ∈ es1.toList, knd.is k e.2 = true) (bd : es1.size < scanBound) (ft : t1.fits es1.size = true) (g : Stb.Tg (!w.params.followText "set-order") t1) :
    (h.update a (Obj.putSet es1 t1)).get? a = some { o with data := .set es1 (ep + 1) t1 } ∧ SetG knd (h.update a (Obj.putSet es1 t1)) a S1 es1.size := by
  have z := (SetOf_store (knd := knd) p x d el me bd ft).1
  exact ⟨z, _, _, _, _, z, x, rfl, el, me, bd, ft, rfl, g⟩
theorem setg_tail {gv : Bool → Sem Unit} (hgv : ∀ (b : Bool) (s1 : Shared) (Q1 : Unit → Shared → Prop), Q1 () s1 → wpAny (model prog w) A (gv b) Q1 E s1)
    {a : Addr} {o : Obj} {es es1 : Array (Int × Value)} {ep : Nat} {t t2 : SetTable} {S1 : K → Bool} (p : s.heap.get? a = some o) (x : o.ExactSet) (d : o.data = .set es ep t) (el : ElemsOf knd es1.toList)
    (me : ∀ k, S1 k = true ↔ ∃ e ∈ es1.toList, knd.is k e.2 = true) (bd : es1.size < scanBound) (ft : t2.fits es1.size = true) (g : Stb.Tg (!w.params.followText "set-order") t2) {was : Bool} {R : Option Bool → Shared → Prop}
    (q : ∀ h', Heap.SameBut a s.heap h' → SetG knd h' a S1 es1.size → R (some true) { s with heap := h' }) :
    wpAny (model prog w) A (do
        storeSet a es1 t2
        if (!was && t2.tooFull) = true then do
            gv (relayAll t2 es1 (SetTable.grown es1.size)).2.2
            storeSet a (relayAll t2 es1 (SetTable.grown es1.size)).1 (relayAll t2 es1 (SetTable.grown es1.size)).2.1
            pure (some true)
          else pure (some true)) R E s := by
  refine wpAny_bind (wpAny_storeSet_of p d ?_ (fits_of_scanBound bd))
  obtain ⟨p1, g1⟩ := setg_store (knd := knd) p x d el me bd ft g
  have sb := Heap.SameBut.update s.heap a (Obj.putSet es1 t2)
  split
  · have hp := relayAll_perm t2 es1 (SetTable.grown es1.size)
    have hf := relayAll_fits t2 es1 (SetTable.grown es1.size)
    have hg := Stb.tg_relay es1 (SetTable.grown es1.size) g
    generalize relayAll t2 es1 (SetTable.grown es1.size) = Z at hp hf hg ⊢
    obtain ⟨es2, t3, gave⟩ := Z
    dsimp only at hp hf hg ⊢
    have el2 : ElemsOf knd es2.toList := el.perm hp
    have me2 : ∀ k', S1 k' = true ↔ ∃ e ∈ es2.toList, knd.is k' e.2 = true := fun k' => by
      rw [me k']
      exact ⟨fun ⟨e, a1, a2⟩ => ⟨e, hp.mem_iff.mpr a1, a2⟩, fun ⟨e, a1, a2⟩ => ⟨e, hp.mem_iff.mp a1, a2⟩⟩
    have sz : es2.size = es1.size := by
      have := hp.length_eq
      rwa [Array.length_toList, Array.length_toList] at this
    refine wpAny_bind (hgv _ _ _ (wpAny_bind (wpAny_storeSet_of p1 rfl ?_ (fits_of_scanBound (by omega)))))
    have g2 := (setg_store (knd := knd) p1 x rfl el2 me2 (by omega) hf hg).2
    rw [sz] at g2
    exact wpAny_pure (q _ (sb.trans (Heap.SameBut.update _ a _)) g2)
  · exact wpAny_pure (q _ sb g1)
theorem setg_add {a : Addr} {S : K → Bool} {n : Nat} {k : K} {v : Value} {Q : Bool → Shared → Prop} (hk : knd.is k v = true) (sc : v.scannable = true) (G : SetG knd s.heap a S n) (rm : n + 1 < scanBound)
    (q : ∀ h', Heap.SameBut a s.heap h' → SetG knd h' a (fun k' => S k' || decide (k' = k)) (if S k then n else n + 1) → Q (!S k) { s with heap := h' }) :
    wpAny (model prog w) A (setAddHashed a v (knd.hash k)) Q E s := by
  obtain ⟨o, es, ep, t, p, x, d, el, me, bd, ft, en, g⟩ := id G
  unfold setAddHashed setAddHashedIn
  refine wpAny_holding (wpAny_bind (wpAny_setState_of p d ft ?_)); dsimp only
  rw [byScan_of sc bd el, if_pos rfl]
  unfold setAddByScan
  refine wpAny_bind (wpAny_bind (wpAny_rule (wpAny_bind (wpAny_setScan_of hk p d ft el ?_))))
  cases hr : List.findIdx? (fun e => knd.is k e.2) es.toList with
  | some j =>
    obtain ⟨hj, pj, _⟩ := List.findIdx?_eq_some_iff_getElem.mp hr
    have Sk : S k = true := (me k).mpr ⟨_, List.getElem_mem hj, pj⟩
    refine wpAny_pure (wpAny_pure ?_)
    have z := q s.heap (Heap.SameBut.refl a s.heap) (G.congr (fun k' => by
      by_cases e : k' = k
      · rw [e, Sk]; rfl
      · rw [decide_eq_false e, Bool.or_false]) (by rw [if_pos Sk]))
    rw [Sk] at z
    exact z
  | none =>
    dsimp only
    have Sk : S k = false := by
      cases z : S k with
      | false => rfl
      | true =>
        obtain ⟨e, he, hp⟩ := (me k).mp z
        have := List.findIdx?_eq_none_iff.mp hr e he
        rw [hp] at this
        cases this
    have gw : ∀ (b : Bool) (s1 : Shared) (Q1 : Unit → Shared → Prop), Q1 () s1 → wpAny (model prog w) A (match b with | true => rule "set.scan.the-table-gave-way" | false => pure ()) Q1 E s1 := fun b s1 Q1 z => by
      cases b
      · exact wpAny_pure z
      · exact wpAny_rule z
    have hp := layNew_perm t es (knd.hash k) v
    have hf := layNew_fits t es (knd.hash k) v
    have hg := Stb.tg_layNew es (knd.hash k) v g
    generalize layNew t es (knd.hash k) v = L at hp hf hg ⊢
    obtain ⟨es1, t1, was, gave⟩ := L
    dsimp only at hp hf hg ⊢
    rw [Array.toList_push] at hp
    have el1 : ElemsOf knd es1.toList := (el.push hk sc).perm hp
    have me1 := mem_push_iff hk me hp
    have sz : es1.size = n + 1 := by
      have := hp.length_eq
      rw [List.length_append, Array.length_toList, Array.length_toList, en] at this
      exact this
    have bd1 : es1.size < scanBound := by omega
    refine wpAny_bind (gw _ _ _ ?_)
    have fin : ∀ h', Heap.SameBut a s.heap h' → SetG knd h' a (fun k' => S k' || decide (k' = k)) es1.size → Q true { s with heap := h' } := fun h' sb g' => by
      have z := q h' sb
      rw [Sk] at z
      exact z (g'.congr (fun _ => rfl) sz)
    split
    · refine wpAny_bind ?_
      rw [hashByValue_scannable 8 sc]
      refine wpAny_pure (setg_tail gw p x d el1 me1 bd1 ?_ ?_ fun h' sb g' => wpAny_pure (fin h' sb g'))
      · split
        · exact hf
        · exact SetTable.fits_plain_off hf
      · split
        · exact hg
        · exact Stb.tg_off hg
    · refine wpAny_bind (wpAny_pure ?_)
      rw [if_pos rfl]
      exact setg_tail gw p x d el1 me1 bd1 hf hg fun h' sb g' => wpAny_pure (fin h' sb g')
end
section
variable {K : Type} [DecidableEq K]
def dd (l : List K) : List K := l.foldl (fun σ k => if k ∈ σ then σ else σ ++ [k]) []
theorem dd_snoc (l : List K) (k : K) : dd (l ++ [k]) = if k ∈ dd l then dd l else dd l ++ [k] := by
  unfold dd
  rw [List.foldl_append]
  rfl
theorem snoc_ind {P : List K → Prop} (h0 : P []) (h1 : ∀ l k, P l → P (l ++ [k])) (l : List K) : P l := by
  have : ∀ m : List K, P m.reverse := by
    intro m
    induction m with
    | nil => exact h0
    | cons a m ih => rw [List.reverse_cons]; exact h1 _ _ ih
  have z := this l.reverse
  rwa [List.reverse_reverse] at z
theorem dd_spec (l : List K) : (dd l).Nodup ∧ (∀ k, k ∈ dd l ↔ k ∈ l) ∧ (dd l).length ≤ l.length := by
  refine snoc_ind (P := fun l => (dd l).Nodup ∧ (∀ k, k ∈ dd l ↔ k ∈ l) ∧ (dd l).length ≤ l.length) ⟨List.nodup_nil, fun k => Iff.rfl, Nat.le_refl _⟩ (fun l k ih => ?_) l
  obtain ⟨h1, h2, h3⟩ := ih
  rw [dd_snoc, List.length_append, List.length_singleton]
  by_cases h : k ∈ dd l
  · rw [if_pos h]
    refine ⟨h1, fun k' => ?_, by omega⟩
    rw [List.mem_append, List.mem_singleton, h2]
    exact ⟨.inl, fun z => z.elim id fun e => e ▸ (h2 k).mp h⟩
  · rw [if_neg h, List.length_append, List.length_singleton]
    refine ⟨List.nodup_append.mpr ⟨h1, by simp, fun a ha b hb => ?_⟩, fun k' => ?_, by omega⟩
    · rw [List.mem_singleton] at hb
      subst hb
      exact fun e => h (e ▸ ha)
    · rw [List.mem_append, List.mem_singleton, List.mem_append, List.mem_singleton, h2]
theorem perm_of_sub : ∀ (σ ks : List K), σ.Nodup → (∀ k ∈ σ, k ∈ ks) → ks.length = σ.length → ks.Perm σ
  | [], ks, _, _, h => by
    rw [List.length_eq_zero_iff.mp h]
  | k :: σ, ks, nd, sub, h => by
    obtain ⟨n1, n2⟩ := List.nodup_cons.mp nd
    have hk := sub k List.mem_cons_self
    refine (List.perm_cons_erase hk).trans (List.Perm.cons k (perm_of_sub σ _ n2 (fun k' hk' => ?_) ?_))
    · exact (List.mem_erase_of_ne (fun e : k' = k => n1 (e ▸ hk'))).mpr (sub k' (List.mem_cons_of_mem _ hk'))
    · rw [List.length_erase_of_mem hk, h]
      rfl
end
section
variable {prog : Program} {w : World} {K : Type} [DecidableEq K] {knd : PySem.KeyKind prog w K} {A : Around} {R : Result → Shared → Prop} {I : Addr} {fp wr : List Addr} {G : Array GenState → Array GenState → Prop} {n : Nat} {P : Nat → Value → Prop} {St : Nat → Shared → Prop}
theorem setg_next {h : Heap} {a : Addr} {val : Nat → K} {i : Nat} (g : SetG knd h a (fun k' => decide (k' ∈ dd ((List.range i).map val)) || decide (k' = val i)) (if decide (val i ∈ dd ((List.range i).map val)) = true then (dd ((List.range i).map val)).length else (dd ((List.range i).map val)).length + 1)) :
    SetG knd h a (fun k' => decide (k' ∈ dd ((List.range (i + 1)).map val))) (dd ((List.range (i + 1)).map val)).length := by
  have e : (List.range (i + 1)).map val = (List.range i).map val ++ [val i] := by rw [List.range_succ, List.map_append]; rfl
  refine g.congr (fun k => ?_) ?_
  · rw [e, dd_snoc]
    by_cases h : val i ∈ dd ((List.range i).map val)
    · rw [if_pos h]
      by_cases e : k = val i
      · rw [e, decide_eq_true h]; rfl
      · rw [decide_eq_false e, Bool.or_false]
    · rw [if_neg h, ← Bool.decide_or]
      exact decide_eq_decide.mpr (by rw [List.mem_append, List.mem_singleton])
  · rw [e, dd_snoc]
    by_cases h : val i ∈ dd ((List.range i).map val)
    · rw [if_pos h, if_pos (decide_eq_true h)]
    · rw [if_neg h, if_neg (by rw [decide_eq_false h]; exact Bool.false_ne_true), List.length_append]
      rfl
theorem setg_loop (W : WalksS prog w A.in1 I fp wr G n P St) (a : Addr) (na : a ∉ fp) (val : Nat → K) (hval : ∀ i v, P i v → knd.is (val i) v = true ∧ v.scannable = true) (hb : n + 1 < scanBound) :
    ∀ (k i : Nat) (s : Shared), n - i = k → i ≤ n → St i s → SetG knd s.heap a (fun k' => decide (k' ∈ dd ((List.range i).map val))) (dd ((List.range i).map val)).length →
      (∀ s', Moved (a :: wr) G s s' → SetG knd s'.heap a (fun k' => decide (k' ∈ dd ((List.range n).map val))) (dd ((List.range n).map val)).length → R (.ok (.ret .none)) s') →
      codeAny (model prog w) A (.builtin "set.update.loop" ⟨[.ref a, .ref I], []⟩) R s := by
  have nw : a ∉ wr := fun h => na (W.sub _ h)
  have sub : ∀ b ∈ wr, b ∈ a :: wr := fun b h => List.mem_cons_of_mem _ h
  intro k
  induction k with
  | zero =>
    intro i s e le st g fin
    obtain rfl : i = n := by omega
    refine codeAny_builtin F.entry_set_update_loop ?_; rw [Around.under_plainId F.plain_set_update_loop _]
    show wpAny _ A.in1 (pyNext (.ref I) >>= _) _ _ s; refine wpAny_bind (W.done s _ _ st fun s' mv => ?_)
    exact wpAny_pure (fin s' (mv.mono sub) (g.keep fun o e => mv.heap a o nw e))
  | succ k ih =>
    intro i s e le st g fin
    have lt : i < n := by omega
    refine codeAny_builtin F.entry_set_update_loop ?_; rw [Around.under_plainId F.plain_set_update_loop _]
    show wpAny _ A.in1 (pyNext (.ref I) >>= _) _ _ s; refine wpAny_bind (W.item i s _ _ lt st fun v s1 pv st1 mv => ?_)
    obtain ⟨hk, sc⟩ := hval i v pv
    have g1 := g.keep (h' := s1.heap) fun o e => mv.heap a o nw e
    show wpAny _ A.in1 (holding [v] (setAdd a v) >>= _) _ _ s1; refine wpAny_bind (wpAny_holding ?_)
    unfold setAdd
    refine wpAny_holding (wpAny_bind (knd.pyHash hk ?_))
    have len := (dd_spec ((List.range i).map val)).2.2
    rw [List.length_map, List.length_range] at len
    refine setg_add (s := { s1 with toks := s1.toks + 1 }) hk sc g1 (by omega) fun h' sb g2 => ?_
    refine wpAny_pure ⟨plainId_quiet F.plain_set_update_loop _, ih (i + 1) _ (by omega) lt (W.frame _ s1 _ _ st1 (Nat.le_succ _) fun b hb o e => ?_) (setg_next g2) fun s2 mv2 g3 => ?_⟩
    · rw [sb.2 b fun z : b = a => na (z ▸ hb)]; exact e
    · refine fin s2 (Moved.trans W.gtrans ((mv.mono sub).then_heap (Nat.le_succ _) fun b o hb e => ?_) mv2) g3
      rw [sb.2 b fun z : b = a => hb (z ▸ List.mem_cons_self)]; exact e
end
end L2
set_option Elab.async false
set_option linter.all false
set_option maxRecDepth 100000
namespace L2
open PySem PySem.Spec PyProof.Rows PySem.W
section
variable {prog : Program} {w : World} {K : Type} [DecidableEq K] {knd : PySem.KeyKind prog w K} {A : Around} {E : Value → Shared → Prop} {s : Shared}
abbrev setO (b : Bool) : Obj := { cls := .type "set", dict := none, data := .set #[] 0 (.fresh 0 0 b) }
theorem setg_fresh {h : Heap} {a : Addr} (e : h.get? a = some (setO (!w.params.followText "set-order"))) : SetG knd h a (fun _ => false) 0 :=
  ⟨_, #[], 0, _, e, ⟨rfl, rfl, rfl⟩, rfl, fun e he => by simp at he, fun k => by simp, by decide, by rfl, rfl, Stb.tg_fresh⟩
theorem setg_new (v : Value) {Q1 : Value → Shared → Prop} (q : Q1 (.ref s.heap.objs.size) { s with heap := s.heap.push (setO (!w.params.followText "set-order")) }) :
    codeAny (model prog w) A (.call (.builtin "set.__new__") ⟨[.type "set", v], []⟩) (wants Q1 E) s := by
  refine codeAny_of_tree ?_; show wpAny _ A.in1 (do checkBuiltinCall "set.__new__" ⟨[.type "set", v], []⟩; again (.builtin "set.__new__" ⟨[.type "set", v], []⟩)) _ _ s
  refine wpAny_bind (wpAny_of_eq (F.newCall_set_1 v) (wpAny_pure ⟨plainId_quiet F.plain_set_new _, codeAny_builtin F.entry_set_new ?_⟩)); rw [Around.under_plainId F.plain_set_new _]
  unfold Builtin.«set.__new__» Builtin.Frozenset.newClass; have hsub := sub_set_self
  obtain ⟨hp, g, d, tk, os⟩ := s
  dsimp only at q ⊢; wp_walk
  refine wpAny_askSetting (wpAny_pure ?_); dsimp only
  simp only [newObj]
  refine wpAny_bind (wpAny_alloc (wpAny_pure ?_)); exact wpAny_pure q
set_option maxHeartbeats 3200000 in
theorem setg_call {l : Addr} {items : Array Value} {val : Nat → K} {Q : Value → Shared → Prop} (hh : A.handled = none) (hl : s.heap.IsList l items) (hi : ∀ i v, items[i]? = some v → knd.is (val i) v = true ∧ v.scannable = true) (hb : items.size + 1 < scanBound)
    (q : ∀ (h' : Heap) (tk : Nat), SetG knd h' s.heap.objs.size (fun k => decide (k ∈ dd ((List.range items.size).map val))) (dd ((List.range items.size).map val)).length → (∀ b o, s.heap.get? b = some o → h'.get? b = some o) → Q (.ref s.heap.objs.size) { s with heap := h', toks := tk }) :
    wpAny (model prog w) A (call (.type "set") [.ref l]) Q E s := by
  obtain ⟨c, tl, hmro⟩ := F.called_set.mro; have hmade := F.called_set.made; have hsub := F.called_set.sub
  refine wpAny_call (codeAny_of_tree ?_); show wpAny _ _ (callAny (.type "set") _) _ _ _
  refine wpAny_pure ⟨Code.quiet_builtin _ (by decide +kernel), codeAny_builtin F.entry_type_call ?_⟩; rw [Around.under_plain (weight_type_call_type "set" [.ref l] []) rfl]
  have h1 := F.called_set.notType; have h2 := F.called_set.canCreate; have hct := F.typeCall_set_1 (.ref l); repeat (any_goals (first | assumption | wp_step))
  refine codeAny_mono (setg_new (.ref l) (E := E) (Q1 := fun obj s1 => obj = .ref s.heap.objs.size ∧ s1 = { s with heap := s.heap.push (setO (!w.params.followText "set-order")) }) ⟨rfl, rfl⟩) fun r s1 hr => ?_
  generalize hob : (!w.params.followText "set-order") = led at hr
  match r, hr with
  | .error e, hr => exact hr
  | .ok (.ret obj), hr =>
    obtain ⟨rfl, rfl⟩ := hr
    have hS : (s.heap.push { cls := .type "set", dict := none, data := .set #[] 0 (.fresh 0 0 led) }).get? s.heap.objs.size  = some { cls := .type "set", dict := none, data := .set #[] 0 (.fresh 0 0 led) } := Heap.get?_push_size _ rfl
    have hT : Shared.TypeIs { s with heap := s.heap.push { cls := .type "set", dict := none, data := .set #[] 0 (.fresh 0 0 led) } } (.ref s.heap.objs.size) "set" := ⟨_, hS, rfl⟩
    have hli := F.called_set.init.lookup; have hbi := F.called_set.init.bind (.ref s.heap.objs.size); repeat (any_goals (first | assumption | wp_step))
    refine codeAny_mono (codeAny_call_builtin (R := wants (fun r s2 => r = .none ∧ ∃ h' tk, s2 = { s with heap := h', toks := tk } ∧ SetG knd h' s.heap.objs.size (fun k => decide (k ∈ dd ((List.range items.size).map val))) (dd ((List.range items.size).map val)).length ∧
        (∀ b o, s.heap.get? b = some o → h'.get? b = some o)) E) F.called_set.init.plain F.entry_set_init (check_set_init_1 hT ?_)) fun r2 s2 hr2 => ?_
    · obtain ⟨ol, hol, hcl, nl, hdl⟩ := hl
      obtain ⟨ocls, odict, odata, oslots⟩ := ol
      dsimp only at hcl hdl; subst hcl; subst hdl
      have hol' : (s.heap.push { cls := .type "set", dict := none, data := .set #[] 0 (.fresh 0 0 led) }).get? l = some { cls := .type "list", dict := odict, data := .seq items nl, slots := oslots } := Heap.get?_push_of_some _ hol
      have e1 := F.sub_list_set; have e2 := F.sub_list_frozenset; have e3 : (Value.type "list" == Value.type "dict") = false := by decide
      have hl1 : (s.heap.push { cls := .type "set", dict := none, data := .set #[] 0 (.fresh 0 0 led) }).IsList l items := ⟨_, hol', rfl, nl, rfl⟩
      unfold Builtin.«set.__init__» noKeywords Builtin.Frozenset.updateFrom; generalize hPI : pyIter = PI; wp_walk; subst hPI
      refine wpAny_pyIter_list hl1 ?_
      refine wpAny_bind (wpAny_runValue ?_)
      have hlt : l < s.heap.objs.size := Heap.lt_size hol
      have hh3 : A.in1.in1.in1.handled = none := by simp [hh]
      have ne : l ≠ (s.heap.push { cls := .type "set", dict := none, data := .set #[] 0 (.fresh 0 0 led) }).objs.size := by rw [Heap.size_push]; exact Nat.ne_of_lt (Nat.lt_succ_of_lt hlt)
      have nf : s.heap.objs.size ∉ [(s.heap.push { cls := .type "set", dict := none, data := .set #[] 0 (.fresh 0 0 led) }).objs.size, l] := by
        rw [Heap.size_push]; intro z
        rcases List.mem_cons.mp z with z | z
        · exact absurd z (Nat.ne_of_lt (Nat.lt_succ_self _))
        · exact absurd (List.mem_singleton.mp z) (Nat.ne_of_gt hlt)
      refine setg_loop ((Walks.list hh3 _ l ne items).toS) s.heap.objs.size nf val hi hb (items.size - 0) 0 _ (by omega) (Nat.zero_le _) ⟨⟨_, Heap.get?_push_size _ rfl, rfl, rfl⟩, (hl1.push _)⟩ ?hS0 ?hR
      case hS0 =>
        refine (setg_fresh (knd := knd) (a := s.heap.objs.size) ?_).congr (fun _ => rfl) rfl
        rw [hob]
        exact Heap.get?_push_of_some _ hS
      case hR =>
        intro s' mv g
        obtain ⟨h', g', d', tk', os'⟩ := s'
        obtain rfl : g' = s.gens := mv.gens
        obtain rfl : d' = s.drawn := mv.drawn
        obtain rfl : os' = s.os := mv.os
        refine wpAny_pure (wpAny_pure ⟨rfl, h', tk', rfl, g, fun b o e => ?_⟩)
        have hb : b < s.heap.objs.size := Heap.lt_size e
        refine mv.heap b o (fun z => ?_) (Heap.get?_push_of_some _ (Heap.get?_push_of_some _ e))
        rcases List.mem_cons.mp z with z | z
        · exact absurd z (Nat.ne_of_lt hb)
        · exact absurd (List.mem_singleton.mp z) (by rw [Heap.size_push]; exact Nat.ne_of_lt (Nat.lt_succ_of_lt hb))
    · cases r2 with
      | error e => exact hr2
      | ok fl =>
      cases fl with
      | ret r =>
        obtain ⟨rfl, h', tk, rfl, g, kp⟩ := hr2
        dsimp only
        (repeat (any_goals (first | assumption | wp_step))); exact q _ _ g kp
      | _ => exact hr2.elim
end
end L2
set_option Elab.async false
set_option linter.all false
set_option maxRecDepth 100000
namespace L2
open PySem PySem.Spec PyProof.Rows PySem.W
namespace SI
theorem entry_iter : entryFor table "set.__iter__" = some Builtin.«frozenset.__iter__» := entryFor_alias (id' := "frozenset.__iter__") (by kernel_rfl) rfl (by decide +kernel) (by kernel_rfl)
theorem slot_next : Slot "set_iterator" "__next__" "set_iterator.__next__" := .of (owner := "set_iterator") (n := "__next__") (by rw [typeLookup_type, builtinLookup_eq_fast]; kernel_rfl) (by decide +kernel) (by decide +kernel) (by decide +kernel) (by first | exact .inl (by decide +kernel) | exact .inr (by decide +kernel)) (by rw [isSubtype_type]; kernel_rfl)
theorem slot_iter : Slot "set_iterator" "__iter__" "set_iterator.__iter__" := .of (owner := "set_iterator") (n := "__iter__") (by rw [typeLookup_type, builtinLookup_eq_fast]; kernel_rfl) (by decide +kernel) (by decide +kernel) (by decide +kernel) (by first | exact .inl (by decide +kernel) | exact .inr (by decide +kernel)) (by rw [isSubtype_type]; kernel_rfl)
theorem entry_next : entryFor table "set_iterator.__next__" = some Builtin.«set_iterator.__next__» := entryFor_of_tree (by kernel_rfl)
theorem entry_self : entryFor table "set_iterator.__iter__" = some Builtin.«dict_keyiterator.__iter__» := entryFor_alias (id' := "dict_keyiterator.__iter__") (by kernel_rfl) rfl (by decide +kernel) (by kernel_rfl)
theorem args_next (a : Value) : argsOk "set_iterator.__next__" ⟨[a], []⟩ := by unfold argsOk; kernel_rfl
theorem args_self (a : Value) : argsOk "set_iterator.__iter__" ⟨[a], []⟩ := by unfold argsOk; kernel_rfl
theorem len_set : typeLookup (.type "set") "__len__" = pure (some (.builtin "set.__len__")) := by rw [typeLookup_type, builtinLookup_eq_fast]; kernel_rfl
end SI
def IsSIt (h : Heap) (it : Addr) (first : Value) (i : Nat) (a : Addr) (n ep : Nat) : Prop := ∃ o, h.get? it = some o ∧ o.cls = .type "set_iterator" ∧ o.data = .fields #[first, .int i 0, .ref a, .int n 0, .int ep 0]
theorem IsSIt.type {s : Shared} {it a : Addr} {first : Value} {i n ep : Nat} (h : IsSIt s.heap it first i a n ep) : s.TypeIs (.ref it) "set_iterator" := let ⟨o, e, c, _⟩ := h; ⟨o, e, c⟩
theorem IsSIt.at_ {h h' : Heap} {it a : Addr} {first : Value} {i n ep : Nat} (x : IsSIt h it first i a n ep) (k : ∀ o, h.get? it = some o → h'.get? it = some o) : IsSIt h' it first i a n ep := let ⟨o, e, r⟩ := x; ⟨o, k o e, r⟩
def SAt (a : Addr) (es : Array (Int × Value)) (ep : Nat) (t : SetTable) (h : Heap) : Prop := ∃ o, h.get? a = some o ∧ o.ExactSet ∧ o.data = .set es ep t ∧ t.fits es.size = true
theorem SAt.keep {a : Addr} {es : Array (Int × Value)} {ep : Nat} {t : SetTable} {h h' : Heap} (x : SAt a es ep t h) (k : ∀ o, h.get? a = some o → h'.get? a = some o) : SAt a es ep t h' := let ⟨o, e, r⟩ := x; ⟨o, k o e, r⟩
section
variable {prog : Program} {w : World} {A : Around} {E : Value → Shared → Prop} {s : Shared} {it a : Addr} {i n ep sl : Nat} {es : Array (Int × Value)} {t : SetTable}
theorem sit_item {Q : Option Value → Shared → Prop} {x : Value} {j : Nat} (hit : IsSIt s.heap it (.int sl 0) i a es.size ep) (hs : SAt a es ep t s.heap) (nx : ∀ {A : Around} {E : Value → Shared → Prop} {Q : Option (Value × Nat) → Shared → Prop}, Q (some (x, j)) s → wpAny (model prog w) A (setNext a sl i ep) Q E s)
    (q : ∀ h', IsSIt h' it (.int j 0) (i + 1) a es.size ep → Heap.SameBut it s.heap h' → Q (some x) { s with heap := h' }) : wpAny (model prog w) A (pyNext (.ref it)) Q E s := by
  obtain ⟨oI, hoI, hcI, hfI⟩ := id hit
  obtain ⟨o, ho, hx, hd, hf⟩ := id hs
  unfold pyNext
  refine wpAny_bind (wpAny_attempt (wpAny_callSpecial?_slot (name := Str.ofString "__next__") hit.type SI.slot_next (wpAny_call_entry SI.slot_next hit.type SI.entry_next ?_ (SI.args_next _))))
  unfold Builtin.«set_iterator.__next__»
  refine wpAny_bind (wpAny_pure (wpAny_bind (wpAny_fieldsOf hoI hfI ?_)))
  dsimp only
  refine wpAny_bind (wpAny_setEntries_of ho hd hf ?_)
  refine wpAny_ite_split (fun z => absurd z (by simp)) (fun _ => ?_)
  refine wpAny_bind (nx ?_)
  dsimp only
  refine wpAny_bind (wpAny_setField hoI hfI (by simp) ?_)
  have e1 := Heap.get?_update_self (Obj.mapFields (·.setIfInBounds 0 (rawInt j))) hoI (Obj.isFreed_of_fields (Obj.data_mapFields hfI _))
  have f1 := Obj.data_mapFields hfI (·.setIfInBounds 0 (rawInt j))
  refine wpAny_bind (wpAny_setField e1 f1 (by simp) ?_)
  refine wpAny_pure ⟨_, rfl, wpAny_pure (q _ ⟨_, Heap.get?_update_self _ e1 (Obj.isFreed_of_fields (Obj.data_mapFields f1 _)), ?_, ?_⟩ ((Heap.SameBut.update ..).trans (Heap.SameBut.update ..)))⟩
  · rw [Obj.cls_mapFields, Obj.cls_mapFields]; exact hcI
  · rw [Obj.data_mapFields f1]; simp [rawInt]
theorem sit_end {Q : Option Value → Shared → Prop} (hh : A.handled = none) (hit : IsSIt s.heap it (.int sl 0) i a es.size ep) (hs : SAt a es ep t s.heap) (nx : ∀ {A : Around} {E : Value → Shared → Prop} {Q : Option (Value × Nat) → Shared → Prop}, Q none s → wpAny (model prog w) A (setNext a sl i ep) Q E s)
    (q : ∀ h', Heap.ExtBut it s.heap h' → Q none { s with heap := h' }) : wpAny (model prog w) A (pyNext (.ref it)) Q E s := by
  obtain ⟨oI, hoI, hcI, hfI⟩ := id hit
  obtain ⟨o, ho, hx, hd, hf⟩ := id hs
  unfold pyNext
  refine wpAny_bind (wpAny_attempt (wpAny_callSpecial?_slot (name := Str.ofString "__next__") hit.type SI.slot_next (wpAny_call_entry SI.slot_next hit.type SI.entry_next ?_ (SI.args_next _))))
  unfold Builtin.«set_iterator.__next__»
  refine wpAny_bind (wpAny_pure (wpAny_bind (wpAny_fieldsOf hoI hfI ?_)))
  dsimp only
  refine wpAny_bind (wpAny_setEntries_of ho hd hf ?_)
  refine wpAny_ite_split (fun z => absurd z (by simp)) (fun _ => ?_)
  refine wpAny_bind (nx ?_)
  dsimp only
  refine wpAny_bind (wpAny_setField hoI hfI (by simp) (wpAny_bind ?_))
  simp only [newExc, newTuple]; refine wpAny_bind (wpAny_newObj_type (wpAny_bind (m := firstArgMember _ _) (wpAny_of_eq (a := Value.none) (by first | rfl | (simp only [firstArgMember]; rfl)) (wpAny_newObj_type ?_ (by size_fits)))) (by size_fits))
  simp only [raiseNew]; refine wpAny_bind (wpAny_handled ?_); rw [show A.in1.handled = none from hh]; refine wpAny_bind (wpAny_pure (wpAny_throw ?_))
  refine wpAny_bind (wpAny_isInstance (T := "StopIteration") (b := true) ⟨_, Heap.get?_push_size _ rfl, rfl⟩ isSubtype_stop (wpAny_pure (q _ (((Heap.SameBut.update ..).extBut.push _).push _))))
theorem sit_itemD {Q : Option Value → Shared → Prop} {x : Value} {tp : Addr} {otp : Obj} {pl : Array Value} {c hx' : Nat} {hsh : Int} {tk : Tok} (hit : IsSIt s.heap it (.ref tp) i a es.size ep) (hs : SAt a es ep t s.heap) (htp : s.heap.get? tp = some otp) (hpl : otp.data = .seq pl c) (hp : pl[i]? = some (.int (hx' : Nat) tk)) (he : es[hx']? = some (hsh, x))
    (q : ∀ h', IsSIt h' it (.ref tp) (i + 1) a es.size ep → Heap.SameBut it s.heap h' → Q (some x) { s with heap := h' }) : wpAny (model prog w) A (pyNext (.ref it)) Q E s := by
  obtain ⟨oI, hoI, hcI, hfI⟩ := id hit
  obtain ⟨o, ho, hx, hd, hf⟩ := id hs
  unfold pyNext
  refine wpAny_bind (wpAny_attempt (wpAny_callSpecial?_slot (name := Str.ofString "__next__") hit.type SI.slot_next (wpAny_call_entry SI.slot_next hit.type SI.entry_next ?_ (SI.args_next _))))
  unfold Builtin.«set_iterator.__next__»
  refine wpAny_bind (wpAny_pure (wpAny_bind (wpAny_fieldsOf hoI hfI ?_)))
  dsimp only
  refine wpAny_bind (wpAny_setEntries_of ho hd hf ?_)
  refine wpAny_ite_split (fun z => absurd z (by simp)) (fun _ => ?_)
  unfold seqItems?
  refine wpAny_bind (wpAny_bind (wpAny_load htp ?_))
  rw [hpl]
  refine wpAny_pure ?_
  dsimp only
  rw [Int.toNat_natCast, hp]
  dsimp only
  unfold setNextDrawn
  refine wpAny_bind (wpAny_bind (wpAny_setState_of ho hd hf ?_))
  dsimp only
  refine wpAny_ite_split (fun z => absurd z (by simp)) (fun _ => ?_)
  rw [Int.toNat_natCast, he]
  refine wpAny_pure ?_
  refine wpAny_bind (wpAny_setField hoI hfI (by simp) ?_)
  refine wpAny_pure ⟨_, rfl, wpAny_pure (q _ ⟨_, Heap.get?_update_self _ hoI (Obj.isFreed_of_fields (Obj.data_mapFields hfI _)), (Obj.cls_mapFields ..).trans hcI, ?_⟩ (Heap.SameBut.update ..))⟩
  rw [Obj.data_mapFields hfI]; simp [rawInt]
theorem sit_endD {Q : Option Value → Shared → Prop} {tp : Addr} {otp : Obj} {pl : Array Value} {c : Nat} (hh : A.handled = none) (hit : IsSIt s.heap it (.ref tp) i a es.size ep) (hs : SAt a es ep t s.heap) (htp : s.heap.get? tp = some otp) (hpl : otp.data = .seq pl c) (hp : pl[i]? = none)
    (q : ∀ h', Heap.ExtBut it s.heap h' → Q none { s with heap := h' }) : wpAny (model prog w) A (pyNext (.ref it)) Q E s := by
  obtain ⟨oI, hoI, hcI, hfI⟩ := id hit
  obtain ⟨o, ho, hx, hd, hf⟩ := id hs
  unfold pyNext
  refine wpAny_bind (wpAny_attempt (wpAny_callSpecial?_slot (name := Str.ofString "__next__") hit.type SI.slot_next (wpAny_call_entry SI.slot_next hit.type SI.entry_next ?_ (SI.args_next _))))
  unfold Builtin.«set_iterator.__next__»
  refine wpAny_bind (wpAny_pure (wpAny_bind (wpAny_fieldsOf hoI hfI ?_)))
  dsimp only
  refine wpAny_bind (wpAny_setEntries_of ho hd hf ?_)
  refine wpAny_ite_split (fun z => absurd z (by simp)) (fun _ => ?_)
  unfold seqItems?
  refine wpAny_bind (wpAny_bind (wpAny_load htp ?_))
  rw [hpl]
  refine wpAny_pure ?_
  dsimp only
  rw [Int.toNat_natCast, hp]
  dsimp only
  refine wpAny_bind (wpAny_setField hoI hfI (by simp) ?_)
  have e1 := Heap.get?_update_self (Obj.mapFields (·.setIfInBounds 0 (rawInt 0))) hoI (Obj.isFreed_of_fields (Obj.data_mapFields hfI _))
  have f1 := Obj.data_mapFields hfI (·.setIfInBounds 0 (rawInt 0))
  refine wpAny_bind (wpAny_setField e1 f1 (by simp) (wpAny_bind ?_))
  simp only [newExc, newTuple]; refine wpAny_bind (wpAny_newObj_type (wpAny_bind (m := firstArgMember _ _) (wpAny_of_eq (a := Value.none) (by first | rfl | (simp only [firstArgMember]; rfl)) (wpAny_newObj_type ?_ (by size_fits)))) (by size_fits))
  simp only [raiseNew]; refine wpAny_bind (wpAny_handled ?_); rw [show A.in1.handled = none from hh]; refine wpAny_bind (wpAny_pure (wpAny_throw ?_))
  refine wpAny_bind (wpAny_isInstance (T := "StopIteration") (b := true) ⟨_, Heap.get?_push_size _ rfl, rfl⟩ isSubtype_stop (wpAny_pure (q _ ((((Heap.SameBut.update ..).trans (Heap.SameBut.update ..)).extBut.push _).push _))))
theorem sit_self {Q : Value → Shared → Prop} {first : Value} (hit : IsSIt s.heap it first i a n ep) (q : Q (.ref it) s) : wpAny (model prog w) A (pyIter (.ref it)) Q E s := by
  refine wpAny_pyIter_slot hit.type SI.slot_iter (wpAny_call_entry SI.slot_iter hit.type SI.entry_self ?_ (SI.args_self _))
  exact wpAny_pure ⟨_, rfl, "set_iterator", _, hit.type, SI.slot_next.lookup, q⟩
end
end L2
set_option Elab.async false
set_option linter.all false
set_option maxRecDepth 100000
namespace L2
open PySem PySem.Spec PyProof.Rows PySem.W
theorem erase_perm {α : Type} {l : List α} {i : Nat} {x : α} (h : l[i]? = some x) : (x :: l.eraseIdx i).Perm l := by
  obtain ⟨hi, e⟩ := List.getElem?_eq_some_iff.mp h
  subst e
  have z : l = l.take i ++ l[i] :: l.drop (i + 1) := by
    rw [List.getElem_cons_drop, List.take_append_drop]
  rw [List.eraseIdx_eq_take_drop_succ]
  exact (List.perm_middle.symm).trans (List.Perm.of_eq z.symm)
theorem pick_go {α : Type} (next : Nat → Nat) : ∀ (f k : Nat) (l : List α) (out : Array α), l.length ≤ f → (pickOrder.go next f k l out).toList.Perm (out.toList ++ l) := by
  intro f
  induction f with
  | zero =>
    intro k l out h
    rw [List.length_eq_zero_iff.mp (Nat.le_zero.mp h), List.append_nil, pickOrder.go]
  | succ f ih =>
    intro k l out h
    rw [pickOrder.go]
    cases e : l[next k % l.length]? with
    | none =>
      have : l = [] := by
        cases l with
        | nil => rfl
        | cons b l =>
          have := List.getElem?_eq_none_iff.mp e
          have z := Nat.mod_lt (next k) (show 0 < (b :: l).length by simp)
          omega
      rw [this, List.append_nil]
    | some x =>
      dsimp only
      have p := erase_perm e
      have pl := p.length_eq
      rw [List.length_cons] at pl
      refine (ih _ _ _ (by omega)).trans ?_
      rw [Array.toList_push, List.append_assoc]
      exact List.Perm.append_left _ p
theorem pick_perm {α : Type} (next : Nat → Nat) (xs : Array α) : (pickOrder next xs).toList.Perm xs.toList := by
  have := pick_go next xs.size 0 xs.toList #[] (by rw [Array.length_toList]; exact Nat.le_refl _)
  exact this
section
variable {prog : Program} {w : World} {A : Around} {E : Value → Shared → Prop} {s : Shared} {a : Addr} {ep : Nat} {es : Array (Int × Value)} {t : SetTable}
theorem wp_choose {Q : Nat → Shared → Prop} {src : Source} {n : Nat} (hn : n ≠ 0) (q : ∀ k d', k < n → Q k { s with drawn := d' }) : wpAny (model prog w) A (choose src n) Q E s := fun Γ p _ =>
  ⟨hn, q _ _ (Nat.mod_lt _ (Nat.pos_of_ne_zero hn))⟩
theorem wp_draw {α : Type} : ∀ (n : Nat) (xs : List α) (s : Shared) (Q : List α → Shared → Prop), xs.length ≤ n → (∀ l d', l.Perm xs → Q l { s with drawn := d' }) → wpAny (model prog w) A (drawOrder n xs) Q E s := by
  intro n
  induction n with
  | zero =>
    intro xs s Q h q
    rw [List.length_eq_zero_iff.mp (Nat.le_zero.mp h)] at q ⊢
    exact wpAny_pure (q [] s.drawn (List.Perm.refl _))
  | succ n ih =>
    intro xs s Q h q
    cases xs with
    | nil => exact wpAny_pure (q [] s.drawn (List.Perm.refl _))
    | cons x xs =>
      refine wpAny_bind (wp_choose (by simp) fun k d' hk => ?_)
      have e := List.getElem?_eq_getElem hk
      rw [e]
      dsimp only
      have p := erase_perm e
      have pl := p.length_eq
      rw [List.length_cons] at pl
      refine wpAny_bind (ih _ _ _ (by omega) fun l d2 hl => wpAny_pure ?_)
      exact q _ _ ((List.Perm.cons _ hl).trans p)
def Nx (prog : Program) (w : World) (a : Addr) (es : Array (Int × Value)) (ep : Nat) (t : SetTable) (ord : List Value) (sl : Nat → Nat) : Prop :=
  ∀ (i : Nat) (s : Shared) (A : Around) (E : Value → Shared → Prop) (Q : Option (Value × Nat) → Shared → Prop), SAt a es ep t s.heap → i ≤ es.size → Q (ord[i]?.map fun x => (x, sl (i + 1))) s → wpAny (model prog w) A (setNext a (sl i) i ep) Q E s
theorem nx_text (b : w.params.followText "set-order" = true) : Nx prog w a es ep t ((pickOrder (w.params.setOrder a ep) es).toList.map (·.2)) (fun _ => 0) := by
  intro i s A E Q hs hi q
  obtain ⟨o, ho, hx, hd, hf⟩ := id hs
  unfold setNext setsByText
  refine wpAny_bind (wpAny_setState_of ho hd hf ?_)
  dsimp only
  refine wpAny_bind (wpAny_bind (wpAny_askSetting (wpAny_pure ?_)))
  refine wpAny_ite_split (fun _ => ?_) (fun z => absurd b z)
  refine wpAny_ite_split (fun z => absurd z (by simp)) (fun _ => ?_)
  unfold setWalk setsByText
  refine wpAny_bind (wpAny_bind (wpAny_setState_of ho hd hf ?_))
  dsimp only
  refine wpAny_bind (wpAny_bind (wpAny_askSetting (wpAny_pure ?_)))
  refine wpAny_ite_split (fun _ => ?_) (fun z => absurd b z)
  refine wpAny_bind (wpAny_askSetting (wpAny_pure (wpAny_pure ?_)))
  rw [List.getElem?_map, Array.getElem?_toList, Option.map_map] at q
  exact q
theorem nx_rise (b : w.params.followText "set-order" = false) (l : t.led = true) (r : Stb.Rise t.place) (pl : t.plain = true ∨ es.size ≤ 1) : Nx prog w a es ep t (es.toList.map (·.2)) (fun i => if i = 0 then 0 else t.place.getD (i - 1) 0 + 1) := by
  intro i s A E Q hs hi q
  obtain ⟨o, ho, hx, hd, hf⟩ := id hs
  have sz : t.place.size = es.size := by
    unfold SetTable.fits at hf
    rw [Bool.and_eq_true, beq_iff_eq] at hf
    exact hf.1
  have bl : SetTable.below t.place (if i = 0 then 0 else t.place.getD (i - 1) 0 + 1) = i := by
    by_cases e : i = 0
    · subst e
      rw [if_pos rfl]
      exact Stb.below_zero r
    · rw [if_neg e]
      have h1 : i - 1 < t.place.size := by omega
      have e1 : t.place[i - 1]? = some (t.place.getD (i - 1) 0) := by
        rw [Array.getElem?_eq_getElem h1, Array.getD, dif_pos h1]
        rfl
      have := Stb.below_at r e1
      omega
  unfold setNext setsByText
  refine wpAny_bind (wpAny_setState_of ho hd hf ?_)
  dsimp only
  refine wpAny_bind (wpAny_bind (wpAny_askSetting (wpAny_pure ?_)))
  refine wpAny_ite_split (fun z => absurd (b.symm.trans z) (by decide)) (fun _ => ?_)
  refine wpAny_ite_split (fun z => ?_) (fun _ => ?_)
  · have z' : (!t.plain && decide (es.size > 1)) = true := z
    rw [Bool.and_eq_true, decide_eq_true_eq, Bool.not_eq_true'] at z'
    rcases pl with h | h
    · rw [h] at z'; cases z'.1
    · exact absurd z'.2 (by omega)
  refine wpAny_bind ?_
  show wpAny _ _ (if (!t.led && !es.isEmpty) = true then unsupported "set:maker-not-led" else pure ()) _ _ s
  rw [l]
  refine wpAny_ite_split (fun z => absurd z (by simp)) (fun _ => wpAny_pure ?_)
  rw [bl]
  refine wpAny_pure ?_
  rw [List.getElem?_map, Array.getElem?_toList] at q
  by_cases h : i < es.size
  · have hp : i < t.place.size := by omega
    rw [Array.getElem?_eq_getElem h] at q ⊢
    rw [Array.getElem?_eq_getElem hp]
    dsimp only at q
    rw [if_neg (Nat.succ_ne_zero i)] at q
    have e2 : t.place.getD (i + 1 - 1) 0 = t.place[i] := by
      rw [Nat.add_sub_cancel, Array.getD, dif_pos hp]
      rfl
    dsimp only [Option.map] at q
    rw [e2] at q
    exact q
  · rw [Array.getElem?_eq_none (by omega)] at q ⊢
    exact q
theorem walks_slots (hh : A.handled = none) (I : Addr) (hne : a ≠ I) {ord : List Value} {sl : Nat → Nat} (hn : ord.length = es.size) (nx : Nx prog w a es ep t ord sl) :
    Walks prog w A I [I, a] [I] es.size (fun i v => ord[i]? = some v) (fun i h => IsSIt h I (.int (sl i) 0) i a es.size ep ∧ SAt a es ep t h) where
  sub := fun c hc' => by simp at hc'; simp [hc']
  frame := fun _ _ _ st hk => ⟨st.1.at_ fun o e => hk I (by simp) o e, st.2.keep fun o e => hk a (by simp) o e⟩
  item := fun i s1 Q E hi st hQ => by
    have e : ord[i]? = some (ord[i]'(by omega)) := List.getElem?_eq_getElem (by omega)
    refine sit_item (x := ord[i]'(by omega)) (j := sl (i + 1)) st.1 st.2 (fun {A E Q} q => nx i s1 A E Q st.2 (Nat.le_of_lt hi) (by rw [e]; exact q)) fun h' hit' hs' => ?_
    exact hQ _ h' s1.toks e ⟨hit', st.2.keep fun o e => (hs'.2 a hne).trans e⟩ fun b o hb e => hs'.extBut b o (fun z => hb (by simp [z])) e
  done := fun s1 Q E st hQ => by
    refine sit_end hh st.1 st.2 (fun {A E Q} q => nx es.size s1 A E Q st.2 (Nat.le_refl _) (by rw [List.getElem?_eq_none (by omega)]; exact q)) fun h' he => ?_
    exact hQ h' s1.toks fun b o hb e => he b o (fun z => hb (by simp [z])) e
  self := fun _ _ _ _ sn hQ => sit_self sn.1 hQ
def TAt (tp : Addr) (od : List Nat) (h : Heap) : Prop := ∃ o c, h.get? tp = some o ∧ o.data = .seq (od.map fun (i : Nat) => rawInt i).toArray c
theorem walks_drawn (hh : A.handled = none) (I tp : Addr) (hne : a ≠ I) (hnt : tp ≠ I) {od : List Nat} (hp : od.Perm (List.range es.size)) :
    Walks prog w A I [I, a, tp] [I] es.size (fun i v => (od.filterMap fun j => es[j]?.map (·.2))[i]? = some v) (fun i h => IsSIt h I (.ref tp) i a es.size ep ∧ SAt a es ep t h ∧ TAt tp od h) where
  sub := fun c hc' => by simp at hc'; simp [hc']
  frame := fun _ _ _ st hk => ⟨st.1.at_ fun o e => hk I (by simp) o e, st.2.1.keep fun o e => hk a (by simp) o e, let ⟨o, c, e, d⟩ := st.2.2; ⟨o, c, hk tp (by simp) o e, d⟩⟩
  item := fun i s1 Q E hi st hQ => by
    obtain ⟨otp, c, e1, e2⟩ := st.2.2
    have len : od.length = es.size := by rw [hp.length_eq, List.length_range]
    have hj : od[i]'(by omega) < es.size := List.mem_range.mp (hp.mem_iff.mp (List.getElem_mem (by omega)))
    have e3 : (od.map fun (i : Nat) => rawInt i).toArray[i]? = some (.int (od[i]'(by omega) : Nat) 0) := by
      rw [List.getElem?_toArray, List.getElem?_map, List.getElem?_eq_getElem (show i < od.length by omega)]
      rfl
    have e5 : (od.filterMap fun j => es[j]?.map (·.2)) = od.map fun j => (es[j]?.map (·.2)).getD .none := by
      have : ∀ l : List Nat, (∀ j ∈ l, j < es.size) → (l.filterMap fun j => es[j]?.map (·.2)) = l.map fun j => (es[j]?.map (·.2)).getD .none := by
        intro l
        induction l with
        | nil => intro _; rfl
        | cons b l ih =>
          intro h
          have hb := h b List.mem_cons_self
          rw [List.filterMap_cons, List.map_cons, Array.getElem?_eq_getElem hb, ih fun j hj => h j (List.mem_cons_of_mem _ hj)]
          rfl
      exact this od fun j hj => List.mem_range.mp (hp.mem_iff.mp hj)
    refine sit_itemD (hsh := (es[od[i]'(by omega)]'hj).1) (x := (es[od[i]'(by omega)]'hj).2) st.1 st.2.1 e1 e2 e3 (Array.getElem?_eq_getElem hj) fun h' hit' hs' => ?_
    refine hQ _ h' s1.toks ?_ ⟨hit', st.2.1.keep fun o e => (hs'.2 a hne).trans e, otp, c, (hs'.2 tp hnt).trans e1, e2⟩ fun b o hb e => hs'.extBut b o (fun z => hb (by simp [z])) e
    rw [e5, List.getElem?_map, List.getElem?_eq_getElem (show i < od.length by omega), Option.map_some, Array.getElem?_eq_getElem hj]
    rfl
  done := fun s1 Q E st hQ => by
    obtain ⟨otp, c, e1, e2⟩ := st.2.2
    have len : od.length = es.size := by rw [hp.length_eq, List.length_range]
    refine sit_endD hh st.1 st.2.1 e1 e2 (by rw [List.getElem?_toArray, List.getElem?_eq_none (by rw [List.length_map]; omega)]) fun h' he => ?_
    exact hQ h' s1.toks fun b o hb e => he b o (fun z => hb (by simp [z])) e
  self := fun _ _ _ _ sn hQ => sit_self sn.1 hQ
end
end L2
set_option Elab.async false
set_option linter.all false
set_option maxRecDepth 100000
namespace L2
open PySem PySem.Spec PyProof.Rows PySem.W
section
variable {prog : Program} {w : World} {A : Around} {E : Value → Shared → Prop} {s : Shared} {a : Addr} {ep : Nat} {es : Array (Int × Value)} {t : SetTable}
theorem SAt.type (h : SAt a es ep t s.heap) : s.TypeIs (.ref a) "set" := let ⟨o, e, x, _⟩ := h; ⟨o, e, x.1⟩
theorem fm_perm {od : List Nat} (hp : od.Perm (List.range es.size)) : (od.filterMap fun j => es[j]?.map (·.2)).Perm (es.toList.map (·.2)) := by
  refine (hp.filterMap _).trans (List.Perm.of_eq ?_)
  refine List.ext_getElem? fun i => ?_
  have : ((List.range es.size).filterMap fun j => es[j]?.map (·.2)) = (List.range es.size).map fun j => (es[j]?.map (·.2)).getD .none := by
    have : ∀ l : List Nat, (∀ j ∈ l, j < es.size) → (l.filterMap fun j => es[j]?.map (·.2)) = l.map fun j => (es[j]?.map (·.2)).getD .none := by
      intro l
      induction l with
      | nil => intro _; rfl
      | cons b l ih =>
        intro h
        rw [List.filterMap_cons, List.map_cons, Array.getElem?_eq_getElem (h b List.mem_cons_self), ih fun j hj => h j (List.mem_cons_of_mem _ hj)]
        rfl
    exact this _ fun j hj => List.mem_range.mp hj
  rw [this, List.getElem?_map, List.getElem?_map]
  have e := Array.getElem?_toList (xs := es) (i := i)
  rw [e]
  by_cases h : i < es.size
  · rw [List.getElem?_range h, Option.map_some, Array.getElem?_eq_getElem h]
    rfl
  · rw [List.getElem?_eq_none (l := List.range es.size) (by rw [List.length_range]; omega), Array.getElem?_eq_none (by omega)]
    rfl
theorem rise_one : ∀ (xs : Array Nat), xs.size ≤ 1 → Stb.Rise xs
  | ⟨[]⟩, _ => List.Pairwise.nil
  | ⟨[x]⟩, _ => List.pairwise_singleton _ _
  | ⟨_ :: _ :: l⟩, h => absurd h (by simp)
set_option maxHeartbeats 1000000 in
theorem set_iter {Q : Value → Shared → Prop} (hs : SAt a es ep t s.heap) (bd : es.size < scanBound) (tg : Stb.Tg (!w.params.followText "set-order") t)
    (q : ∀ (h1 : Heap) d' (I : Addr) (fp : List Addr) (ord : List Value) (St : Nat → Heap → Prop), (∀ A : Around, A.handled = none → Walks prog w A I fp [I] es.size (fun i v => ord[i]? = some v) St) → St 0 h1 → (∀ b o, s.heap.get? b = some o → h1.get? b = some o) → s.heap.objs.size ≤ I →
      (∀ b ∈ fp, b = a ∨ s.heap.objs.size ≤ b) → ord.Perm (es.toList.map (·.2)) → Q (.ref I) { s with heap := h1, drawn := d' }) : wpAny (model prog w) A (pyIter (.ref a)) Q E s := by
  obtain ⟨o, ho, hx, hd, hf⟩ := id hs
  have ha : a < s.heap.objs.size := Heap.lt_size ho
  have sz : t.place.size = es.size := by
    unfold SetTable.fits at hf
    rw [Bool.and_eq_true, beq_iff_eq] at hf
    exact hf.1
  refine wpAny_pyIter_slot hs.type F.slot_set_iter (wpAny_call_entry F.slot_set_iter hs.type SI.entry_iter ?_ (F.args_set_iter_1 _))
  unfold Builtin.«frozenset.__iter__» Builtin.Frozenset.slot0 Builtin.Frozenset.sizeOf setDrawn setsByText
  refine wpAny_bind (wpAny_bind (wpAny_pure (wpAny_pure ?_)))
  refine wpAny_bind (wpAny_bind (wpAny_setEntries_of ho hd hf (wpAny_pure ?_)))
  refine wpAny_bind (wpAny_bind (wpAny_setState_of ho hd hf ?_))
  dsimp only
  refine wpAny_bind (wpAny_bind (wpAny_askSetting (wpAny_pure (wpAny_pure ?_))))
  have slots : ∀ (ord : List Value) (sl : Nat → Nat), sl 0 = 0 → ord.Perm (es.toList.map (·.2)) → Nx prog w a es ep t ord sl →
      wpAny (model prog w) A.in1 (do let n ← setEpoch a; ret (← newFields "set_iterator" [rawInt 0, rawInt 0, .ref a, rawInt es.size, rawInt n])) (fun fin s' => ∃ v, fin = .done (.ret v) ∧ ∃ T' r, s'.TypeIs v T' ∧ typeLookup (.type T') "__next__" = pure (some r) ∧ Q v s') E s := by
    intro ord sl h0 hp nx
    refine wpAny_bind (wpAny_setEpoch_of ho hd hf (wpAny_bind (wpAny_newObj_type (wpAny_pure ⟨_, rfl, "set_iterator", _, ⟨_, Heap.get?_push_size _ rfl, rfl⟩, SI.slot_next.lookup, ?_⟩))))
    refine q _ s.drawn s.heap.objs.size [s.heap.objs.size, a] ord (fun i h => IsSIt h s.heap.objs.size (.int (sl i) 0) i a es.size ep ∧ SAt a es ep t h) (fun A' hA => walks_slots hA _ (Nat.ne_of_lt ha) (by rw [hp.length_eq, List.length_map, Array.length_toList]) nx) ⟨⟨_, Heap.get?_push_size _ rfl, rfl, ?_⟩, hs.keep fun o e => Heap.get?_push_of_some _ e⟩ (fun b o e => Heap.get?_push_of_some _ e) (Nat.le_refl _) (fun b hb => ?_) hp
    · rw [h0]; rfl
    · rcases List.mem_cons.mp hb with rfl | hb
      · exact .inr (Nat.le_refl _)
      · exact .inl (List.mem_singleton.mp hb)
  cases hb : w.params.followText "set-order" with
  | true =>
    refine wpAny_ite_split (fun z => ?_) (fun _ => ?_)
    · have z' : (!w.params.followText "set-order" && _) = true := z
      rw [hb] at z'
      cases z'
    · exact wpAny_bind (wpAny_pure (slots _ (fun _ => 0) rfl ((pick_perm _ _).map _) (nx_text hb)))
  | false =>
    have led : t.led = true := by rw [tg.led, hb]; rfl
    refine wpAny_ite_split (fun z => ?_) (fun z => ?_)
    · refine wpAny_bind (wp_draw es.size (List.range es.size) s _ (by rw [List.length_range]; exact Nat.le_refl _) fun od d' hp => ?_)
      have hl : od.length = es.size := by rw [hp.length_eq, List.length_range]
      refine wpAny_bind (wpAny_newTuple ?_ ?sz1)
      case sz1 => rw [List.length_map, hl]; exact fits_of_scanBound bd
      have hs1 : SAt a es ep t (s.heap.push { cls := .type "tuple", data := .seq (od.map fun (i : Nat) => rawInt i).toArray }) := hs.keep fun o e => Heap.get?_push_of_some _ e
      obtain ⟨o1, ho1, _, hd1, hf1⟩ := id hs1
      refine wpAny_bind (wpAny_setEpoch_of ho1 hd1 hf1 (wpAny_bind (wpAny_newObj_type (wpAny_pure ⟨_, rfl, "set_iterator", _, ⟨_, Heap.get?_push_size _ rfl, rfl⟩, SI.slot_next.lookup, ?_⟩))))
      generalize hT : ({ cls := .type "tuple", data := .seq (od.map fun (i : Nat) => rawInt i).toArray } : Obj) = T0
      have hJ : (s.heap.push T0).objs.size = s.heap.objs.size + 1 := Heap.size_push ..
      have eT : (s.heap.push T0).get? s.heap.objs.size = some T0 := Heap.get?_push_size _ (by rw [← hT]; rfl)
      have hs2 : SAt a es ep t (s.heap.push T0) := hs.keep fun o e => Heap.get?_push_of_some _ e
      refine q _ d' (s.heap.push T0).objs.size [(s.heap.push T0).objs.size, a, s.heap.objs.size] _ (fun i h => IsSIt h (s.heap.push T0).objs.size (.ref s.heap.objs.size) i a es.size ep ∧ SAt a es ep t h ∧ TAt s.heap.objs.size od h)
        (fun A' hA => walks_drawn hA _ _ (by rw [hJ]; exact Nat.ne_of_lt (Nat.lt_succ_of_lt ha)) (by rw [hJ]; exact Nat.ne_of_lt (Nat.lt_succ_self _)) hp) ⟨⟨_, Heap.get?_push_size _ rfl, rfl, rfl⟩, hs2.keep fun o e => Heap.get?_push_of_some _ e, T0, 0, Heap.get?_push_of_some _ eT, by rw [← hT]⟩ (fun b o e => Heap.get?_push_of_some _ (Heap.get?_push_of_some _ e)) (by rw [hJ]; exact Nat.le_succ _) (fun b hb => ?_) (fm_perm hp)
      rcases List.mem_cons.mp hb with rfl | hb
      · exact .inr (by rw [hJ]; exact Nat.le_succ _)
      · rcases List.mem_cons.mp hb with rfl | hb
        · exact .inl rfl
        · exact .inr (by rw [List.mem_singleton.mp hb]; exact Nat.le_refl _)
    · have z' : ¬ (!w.params.followText "set-order" && (!t.plain && decide (es.size > 1))) = true := z
      rw [hb, Bool.not_false, Bool.true_and, Bool.and_eq_true, decide_eq_true_eq, Bool.not_eq_true'] at z'
      have pl : t.plain = true ∨ es.size ≤ 1 := by
        cases h : t.plain with
        | true => exact .inl rfl
        | false => exact .inr (Nat.not_lt.mp fun h2 => z' ⟨h, h2⟩)
      have r : Stb.Rise t.place := by
        rcases pl with h | h
        · exact tg.rise h
        · rw [← sz] at h
          exact rise_one _ h
      exact wpAny_bind (wpAny_pure (slots _ (fun i => if i = 0 then 0 else t.place.getD (i - 1) 0 + 1) rfl (List.Perm.refl _) (nx_rise hb led r pl)))
theorem set_hint {Q : Bool → Shared → Prop} (hT : s.TypeIs (.ref a) "set") (h : Q false s) : wpAny (model prog w) A (Builtin.List.listLengthHint (.ref a)) Q E s := by
  unfold Builtin.List.listLengthHint
  refine wpAny_bind (wpAny_specialOf hT SI.len_set ?_)
  generalize hid : ("set.__len__" : String) = id0; wp_delta; rw [show splitId id0 = some ("set", "__len__") from by subst hid; decide +kernel]; subst hid
  refine wpAny_bind (wpAny_isInstance (T := "set") (b := true) hT (by rw [isSubtype_type]; kernel_rfl) ?_)
  refine wpAny_ite_split (fun z => absurd z (by decide)) (fun _ => wpAny_ite_split (fun _ => ?_) (fun z => absurd (by decide +kernel) z))
  exact wpAny_bind (wpAny_typeOf hT (wpAny_pure h))
theorem set_extend {R : Result → Shared → Prop} (hh : A.handled = none) (hs : SAt a es ep t s.heap) (bd : es.size < scanBound) (tg : Stb.Tg (!w.params.followText "set-order") t) (S : Addr) (hSa : S ≠ a) (res : Value) (c0 : Nat) (hS : s.heap.get? S = some { cls := .type "list", data := .seq #[] c0 })
    (hR : ∀ (h' : Heap) (tk : Nat) d' (vs : Array Value) (c' : Nat), (∀ b o, b ≠ S → s.heap.get? b = some o → h'.get? b = some o) → h'.get? S = some { cls := .type "list", dict := none, data := .seq vs c', slots := #[] } → vs.toList.Perm (es.toList.map (·.2)) → R (.ok (.ret res)) { s with heap := h', toks := tk, drawn := d' }) :
    wpAny (model prog w) A.in1 (Builtin.List.listExtendWith (.ref S) (.ref a) res)
      (fun fin s' => match fin with | .done f => R (.ok f) s' | .again c' => c'.quiet = true ∧ codeAny (model prog w) A c' R s') (fun e s' => R (.error e) s') s := by
  unfold Builtin.List.listExtendWith
  refine wpAny_bind (wpAny_typeOf (T := "set") hs.type ?_)
  have h1 : Builtin.List.listSameRef (.ref S) (.ref a) = false := by simp [Builtin.List.listSameRef, hSa]
  have h2 : (Value.type "set" == Value.type "list") = false := by decide
  have h3 : (Value.type "set" == Value.type "tuple") = false := by decide
  simp only [h1, h2, h3, Bool.or_false, Bool.false_eq_true, if_false]
  refine wpAny_bind (set_iter hs bd tg fun h1 d' I fp ord St W st kp hI hfp pm => ?_)
  have hS1 := kp _ _ hS
  have hSl : S < s.heap.objs.size := Heap.lt_size hS
  have hSf : S ∉ fp := fun z => (hfp S z).elim hSa fun z => absurd hSl (Nat.not_lt.mpr z)
  have key : ∀ (h : Heap) (c1 tk : Nat), St 0 h → (∀ b o, b ≠ S → s.heap.get? b = some o → h.get? b = some o) → h.get? S = some { cls := .type "list", data := .seq #[] c1 } →
      codeAny (model prog w) A (.builtin "list.extend.loop" ⟨[.ref S, .ref I, res], []⟩) R { s with heap := h, toks := tk, drawn := d' } := by
    intro h c1 tk hst hk hS2
    refine codeAny_extend_loopS (W A.in1 hh).toS (fits_of_scanBound bd) S hSf res es.size 0 _ #[] c1 rfl (Nat.zero_le _) hst hS2 (ItemsOf.nil _) fun s' acc c' mv hS' hacc => ?_
    obtain ⟨h', g', d2, tk', os'⟩ := s'
    obtain rfl : g' = s.gens := mv.gens
    obtain rfl : d2 = d' := mv.drawn
    obtain rfl : os' = s.os := mv.os
    refine hR h' tk' _ acc c' (fun b o hb e => mv.heap b o (fun z => ?_) (hk b o hb e)) hS' ?_
    · rcases List.mem_cons.mp z with z | z
      · exact hb z
      · rw [List.mem_singleton.mp z] at e
        exact absurd (Heap.lt_size e) (Nat.not_lt.mpr hI)
    · refine (List.Perm.of_eq (List.ext_getElem? fun i => ?_)).trans pm
      have ol : ord.length = es.size := by rw [pm.length_eq, List.length_map, Array.length_toList]
      rw [Array.getElem?_toList]
      cases e : acc[i]? with
      | none =>
        have := Array.getElem?_eq_none_iff.mp e
        have := hacc.1
        rw [List.getElem?_eq_none (by omega)]
      | some v => exact (hacc.2 i v e).symm
  refine wpAny_bind (wpAny_holding (set_hint (hs.keep fun o e => kp _ _ e).type ?_))
  refine wpAny_ite_split (fun _ => ?_) (fun _ => wpAny_pure ⟨plainId_quiet PySem.F.plain_extend_loop _, key _ c0 _ st (fun b o _ e => kp _ _ e) hS1⟩)
  refine wpAny_bind (wpAny_rule (wpAny_bind ?_))
  show wpAny _ _ (updateSeq S (·.push .none) >>= fun _ => updateSeq S (·.pop)) _ _ _; refine wpAny_bind (wpAny_updateSeq hS1 rfl ?_)
  have hS2 := Heap.get?_update_self (Obj.mapSeq (·.push Value.none)) hS1 rfl; refine wpAny_updateSeq (hz := by seq_fits) hS2 rfl ?_
  have hS3 := Heap.get?_update_self (Obj.mapSeq (·.pop)) hS2 rfl; refine wpAny_pure ⟨plainId_quiet PySem.F.plain_extend_loop _, key _ _ _ ?_ (fun b o hb e => ?_) hS3⟩
  · refine (W A.in1 hh).frame 0 _ _ st fun b hb o e => ?_
    have ne : b ≠ S := fun h => hSf (h ▸ hb)
    exact (Heap.get?_update_other _ _ ne.symm).trans ((Heap.get?_update_other _ _ ne.symm).trans e)
  · exact (Heap.get?_update_other _ _ hb.symm).trans ((Heap.get?_update_other _ _ hb.symm).trans (kp _ _ e))
theorem set_collect {R : List Value → Shared → Prop} (hh : A.handled = none) (hs : SAt a es ep t s.heap) (bd : es.size < scanBound) (tg : Stb.Tg (!w.params.followText "set-order") t)
    (q : ∀ (h' : Heap) (tk : Nat) d' (vs : List Value), (∀ b o, s.heap.get? b = some o → h'.get? b = some o) → vs.Perm (es.toList.map (·.2)) → R vs { s with heap := h', toks := tk, drawn := d' }) : wpAny (model prog w) A (collect (.ref a)) R E s := by
  have ha : a < s.heap.objs.size := let ⟨_, e, _⟩ := hs; Heap.lt_size e
  unfold collect
  refine wpAny_bind (wpAny_runValue (codeAny_builtin entry_proto_collect' ?_)); rw [Around.under_plainId PySem.F.plain_proto_collect _]
  show wpAny _ A.in1 (newList [] >>= fun l => again (.builtin "list.__iadd__" ⟨[l, .ref a], []⟩)) _ _ s; refine wpAny_bind (wpAny_newObj_type ?_)
  refine wpAny_pure ⟨plainId_quiet PySem.F.plain_list_iadd _, codeAny_builtin entry_list_iadd' ?_⟩; rw [Around.under_plainId PySem.F.plain_list_iadd _]
  have hS1 : (s.heap.push { cls := .type "list", data := .seq ([] : List Value).toArray }).get? s.heap.objs.size = some { cls := .type "list", data := .seq #[] 0 } := Heap.get?_push_size _ rfl
  show wpAny _ A.in1 (Builtin.List.listExtendWith (.ref s.heap.objs.size) (.ref a) (.ref s.heap.objs.size)) _ _ _
  have key := set_extend (prog := prog) (A := A) (s := { s with heap := s.heap.push { cls := .type "list", data := .seq ([] : List Value).toArray } })
    (R := fun (x : Result) (s' : Shared) => ∃ (h' : Heap) (tk : Nat) (d' : Drawn) (vs : Array Value) (c' : Nat), x = .ok (.ret (.ref s.heap.objs.size)) ∧ s' = { s with heap := h', toks := tk, drawn := d' } ∧ (∀ b o, s.heap.get? b = some o → h'.get? b = some o) ∧ h'.get? s.heap.objs.size = some { cls := .type "list", dict := none, data := .seq vs c', slots := #[] } ∧ vs.toList.Perm (es.toList.map (·.2)))
    hh (hs.keep fun o e => Heap.get?_push_of_some _ e) bd tg s.heap.objs.size (Nat.ne_of_gt ha) (.ref s.heap.objs.size) 0 hS1 (fun h' tk d' vs c' hk hS' pm => ⟨h', tk, d', vs, c', rfl, rfl, fun b o e => hk b o (Nat.ne_of_lt (Heap.lt_size e)) (Heap.get?_push_of_some _ e), hS', pm⟩)
  refine wpAny_mono key (fun fin s' x => ?_) fun e s' x => ?_
  · cases fin with
    | done f =>
      obtain ⟨h', tk, d', vs, c', e, rfl, hk, hS', pm⟩ := x
      cases e
      exact wpAny_bind (wpAny_load hS' (wpAny_pure (q h' tk d' _ hk pm)))
    | again c1 =>
      refine ⟨x.1, codeAny_mono x.2 fun q1 s2 y => ?_⟩
      obtain ⟨h', tk, d', vs, c', rfl, rfl, hk, hS', pm⟩ := y
      exact wpAny_bind (wpAny_load hS' (wpAny_pure (q h' tk d' _ hk pm)))
  · obtain ⟨_, _, _, _, _, e', _⟩ := x
    cases e'
end
end L2
set_option Elab.async false
set_option linter.all false
set_option maxRecDepth 100000
namespace PySem
open AutoSeq1
end PySem
namespace L2
open PySem PySem.Spec PyProof.Rows
section
variable {X : Cx}
theorem ints_vals : ∀ {ns : List Int} {us : List Value}, Vals (ns.map V.int) us → IntsAre us ns
  | [], _, .nil => .nil
  | n :: ns, _, .cons ⟨t, e⟩ r => by
    subst e
    exact .cons n t (ints_vals r)
theorem vals_intsB : ∀ {ns : List Int} {us : List Value}, IntsAre us ns → Vals (ns.map V.int) us
  | _, _, .nil => .nil
  | _, _, .cons n t r => .cons ⟨t, rfl⟩ (vals_intsB r)
theorem call_sortN : CallR X (.builtin "sorted") (fun xs H Q => ∃ (a : Addr) (ns : List Int), xs = [.ref a] ∧ SqL X.K H a (ns.map V.int) ∧ ns.length < 64 ∧ ∀ (l : Addr) (ms : List Int), H l = none → ms.Perm ns → ms.Pairwise (· ≤ ·) → Q (.ref l) (upd H l (.lst (ms.map V.int)))) := by
  intro pins s σ H xs us Q I r h
  obtain ⟨a, ns, rfl, hq, h64, q⟩ := h
  obtain ⟨u, rfl, ru⟩ := vals1 r
  cases ru
  obtain ⟨its, rv, tp, hz⟩ := I.list hq
  have hl := rv.length
  rw [List.length_map] at hl
  refine sorted_ints tp.isList (ints_vals rv) (by omega) fun out ms hI pm st => ?_
  obtain ⟨e, he⟩ := sortedAll_at s.heap its out
  have ln : (ms.map V.int).length ≤ sizeLine := by rw [List.length_map, pm.length_eq]; exact Nat.le_trans (Nat.le_of_lt h64) (by decide)
  refine ⟨.ref (s.heap.objs.size + 1), _, I.laid (t' := s.toks) (o := .lst (ms.map V.int)) (fun b u e => sortedAll_old e) (Nat.le_succ _) ⟨ln, out.toList, e, vals_intsB hI, ?_⟩, rfl, q _ ms (I.hok.fresh (Nat.le_succ _)) pm st⟩
  rw [he]
end
end L2
set_option Elab.async false
set_option linter.all false
set_option maxRecDepth 100000
namespace L2
open PySem PySem.Spec PyProof.Rows PySem.W
theorem Inv.drew {X : Cx} {pins : List (Addr × Obj)} {σ : St} {H : Hp} {s : Shared} {d' : Drawn} (I : Inv X pins σ H s) : Inv X pins σ H { s with drawn := d' } := ⟨I.ok, I.os, I.bare, I.base, I.loc, I.cell, I.free, I.freeC, I.pin, I.hok, I.len⟩
theorem keys_perm {prog : Program} {w : World} {es : Array (Int × Value)} {σ : List Int} (nd : σ.Nodup) (el : ElemsOf (intKind prog w) es.toList) (me : ∀ k, decide (k ∈ σ) = true ↔ ∃ e ∈ es.toList, (intKind prog w).is k e.2 = true) (en : es.size = σ.length) :
    ∃ ks : List Int, IntsAre (es.toList.map (·.2)) ks ∧ ks.Perm σ := by
  have all : ∀ l : List (Int × Value), ElemsOf (intKind prog w) l → ∃ ks : List Int, IntsAre (l.map (·.2)) ks ∧ ∀ k, (∃ e ∈ l, (intKind prog w).is k e.2 = true) → k ∈ ks := by
    intro l
    induction l with
    | nil => intro _; exact ⟨[], .nil, fun k ⟨e, he, _⟩ => nomatch he⟩
    | cons e l ih =>
      intro h
      obtain ⟨ks, i1, i2⟩ := ih h.tail
      obtain ⟨⟨k, hk, _⟩, _⟩ := h.head
      have hv : ∃ t, e.2 = .int k t := by
        simp only [intKind] at hk
        generalize e.2 = v at hk
        cases v <;> simp [Value.isInt] at hk
        next a b => exact ⟨b, by rw [hk]⟩
      obtain ⟨t, hv⟩ := hv
      refine ⟨k :: ks, by rw [List.map_cons, hv]; exact .cons k t i1, fun k' ⟨e', he', hk'⟩ => ?_⟩
      rcases List.mem_cons.mp he' with rfl | he'
      · rw [(intKind prog w).inj e'.2 k' k hk' hk]
        exact List.mem_cons_self
      · exact List.mem_cons_of_mem _ (i2 k' ⟨e', he', hk'⟩)
  obtain ⟨ks, i1, i2⟩ := all _ el
  refine ⟨ks, i1, perm_of_sub σ ks nd (fun k hk => i2 k ((me k).mp (decide_eq_true hk))) ?_⟩
  have := IntsAre.length i1
  rw [List.length_map, Array.length_toList] at this
  omega
theorem ints_perm {vs us : List Value} (p : vs.Perm us) : ∀ {ks : List Int}, IntsAre us ks → ∃ ks', IntsAre vs ks' ∧ ks'.Perm ks := by
  induction p with
  | nil => intro ks h; exact ⟨ks, h, List.Perm.refl _⟩
  | cons x p ih =>
    intro ks h
    cases h with
    | cons n t r =>
      obtain ⟨ks', a, b⟩ := ih r
      exact ⟨n :: ks', .cons n t a, b.cons n⟩
  | swap x y l =>
    intro ks h
    cases h with
    | cons n t r =>
      cases r with
      | cons n2 t2 r2 => exact ⟨n2 :: n :: _, .cons n2 t2 (.cons n t r2), List.Perm.swap _ _ _⟩
  | trans p1 p2 i1 i2 =>
    intro ks h
    obtain ⟨k1, a1, b1⟩ := i2 h
    obtain ⟨k2, a2, b2⟩ := i1 a1
    exact ⟨k2, a2, b2.trans b1⟩
theorem ms_up {ms σ : List Int} (le : ms.Pairwise (· ≤ ·)) (p : ms.Perm σ) (nd : σ.Nodup) : ms.Pairwise (· < ·) := by
  have nd' : ms.Nodup := p.symm.nodup nd
  clear p nd
  induction ms with
  | nil => exact List.Pairwise.nil
  | cons a l ih =>
    obtain ⟨h1, h2⟩ := List.pairwise_cons.mp le
    obtain ⟨n1, n2⟩ := List.nodup_cons.mp nd'
    refine List.pairwise_cons.mpr ⟨fun b hb => ?_, ih h2 n2⟩
    have := h1 b hb
    have : a ≠ b := fun e => n1 (e ▸ hb)
    omega
def tSetSort (K : Frag) (tl : TE) : TE := fun σ H Q => tl σ H fun x H1 => ∃ (l : Addr) (ns : List Int), x = .ref l ∧ SqL K H1 l (ns.map V.int) ∧ ns.length < 64 ∧
  ∀ (D : Addr) (ms : List Int), H1 D = none → ms.Pairwise (· < ·) → (∀ z, z ∈ ms ↔ z ∈ ns) → Q (.ref D) (upd H1 D (.lst (ms.map V.int)))
theorem pe_setSort {X : Cx} {l : Expr} {tl : TE} {p pos p2 pos2 : Pos} (hg : Gl X "sorted") (hm : X.mg "sorted" = none) (hg2 : Gl X "set") (hm2 : X.mg "set" = none) (hc : X.calm = true) (hl : PE X l tl) (hs : starEach [l] X.env = [(false, eval l X.env)] := by rfl) :
    PE X (.Call (.Name "sorted" p) [.Call (.Name "set" p2) [l] [] pos2] [] pos) (tSetSort X.K tl) := by
  intro pins s σ H Q I h
  refine wpAny_Call_Name_kw (ld_blt I hg hm boot_sorted ?_ (by decide) (by decide))
  refine PyProof.Rows.callWith_builtin1 (Calls.spliced_cons ?_) rfl rfl
  refine wpAny_Call_Name_kw (ld_blt I hg2 hm2 PyProof.Rows.boot_set ?_ (by decide) (by decide))
  refine PyProof.Rows.callWith_type1 (thn ((pa_cons hl pa_nil hs) pos2 pins s σ H (fun vs H1 => match vs with
    | [x] => ∃ (l : Addr) (ns : List Int), x = .ref l ∧ SqL X.K H1 l (ns.map V.int) ∧ ns.length < 64 ∧ ∀ (D : Addr) (ms : List Int), H1 D = none → ms.Pairwise (· < ·) → (∀ z, z ∈ ms ↔ z ∈ ns) → Q (.ref D) (upd H1 D (.lst (ms.map V.int)))
    | _ => False) I h) fun us s1 ⟨vs, H1, I1, r1, q1⟩ => ?_) (by rw [hs]; rfl) (by rfl)
  match vs, q1 with
  | [x], q1 =>
  obtain ⟨u, rfl, ru⟩ := vals1 r1
  obtain ⟨la, ns, rfl, hq, h64, q⟩ := q1
  cases (show u = Value.ref la from ru)
  have hh : X.A.handled = none := I1.ok.hd hc
  obtain ⟨its, rv, tp, hz⟩ := I1.list hq
  have hI := ints_vals rv
  have hlen : its.length = ns.length := IntsAre.length hI
  have esz : its.toArray.size = ns.length := by rw [List.size_toArray]; exact hlen
  have emap : (List.range its.toArray.size).map (fun i => ns.getD i 0) = ns := by
    rw [esz]
    refine List.ext_getElem? fun i => ?_
    rw [List.getElem?_map]
    by_cases hi : i < ns.length
    · rw [List.getElem?_range hi, List.getElem?_eq_getElem hi, Option.map_some, List.getD_eq_getElem?_getD, List.getElem?_eq_getElem hi]
      rfl
    · rw [List.getElem?_eq_none (l := List.range ns.length) (by rw [List.length_range]; omega), List.getElem?_eq_none (by omega)]
      rfl
  have b64 : (64 : Nat) + 1 < scanBound := by decide
  refine setg_call (knd := intKind X.prog X.w) (val := fun i => ns.getD i 0) hh tp.isList (fun i v hv => ?_) (by rw [esz]; omega) fun h' tk g kp => Calls.spliced_nil ?_
  · obtain ⟨t, rfl⟩ := IntsAre.int_at hI i v (by simpa using hv)
    exact ⟨intKind_is _ _ _ _, rfl⟩
  rw [emap] at g
  obtain ⟨o, es, ep, t, ho, hx, hd, el, me, bd, ft, en, tg⟩ := g
  obtain ⟨dnd, dmem, dlen⟩ := dd_spec ns
  obtain ⟨ks, hks, pks⟩ := keys_perm dnd el me en
  have I2 : Inv X pins σ H1 { s1 with heap := h', toks := tk } := I1.kept kp
  refine Calls.call_function_entry kind_sorted plain_sorted entry_sorted (args_sorted1 _) ?_; unfold Builtin.«sorted»
  refine wpAny_bind (m := checkCount "sorted" 1 1 _) (wpAny_pure (wpAny_bind (set_collect (by simp [hh]) ⟨o, ho, hx, hd, ft⟩ bd tg fun h2 tk2 d2 vs2 kp2 pm => ?_)))
  have I3 : Inv X pins σ H1 { s1 with heap := h2, toks := tk2, drawn := d2 } := (I2.kept (h' := h2) (t' := tk2) kp2).drew
  obtain ⟨k2, hk2, pk2⟩ := ints_perm pm hks
  have l2 : vs2.length = (dd ns).length := by rw [IntsAre.length hk2, pk2.length_eq, pks.length_eq]
  have hsm : vs2.length ≤ sizeLine := Nat.le_trans (show vs2.length ≤ 64 by omega) (by decide)
  refine wpAny_bind (wpAny_newList ?_ hsm)
  have hoL : (h2.push (seqObj "list" vs2.toArray 0)).get? h2.objs.size = some (seqObj "list" vs2.toArray 0) := Heap.get?_push_size _ rfl
  show wpAny _ _ _ _ _ { s1 with heap := h2.push (seqObj "list" vs2.toArray 0), toks := tk2, drawn := d2 }
  refine wpAny_bind (wpAny_holding (wpAny_call_entry slot_list_sort ⟨_, hoL, rfl⟩ entry_list_sort (list_sort_tree hoL hk2 (by omega) fun out ms a1 a2 a3 => ⟨_, rfl, ?_⟩) (args_list_sort _)))
  refine wpAny_pure ⟨_, rfl, ?_⟩
  obtain ⟨e, he⟩ := sortedHeap_at (out := out) hoL
  have pms : ms.Perm (dd ns) := a2.trans (pk2.trans pks)
  have nD : H1 h2.objs.size = none := I3.hok.fresh (Nat.le_refl _)
  have ln : (ms.map V.int).length ≤ sizeLine := by rw [List.length_map, pms.length_eq, ← l2]; exact hsm
  refine ⟨.ref h2.objs.size, _, I3.laid (t' := tk2) (o := .lst (ms.map V.int)) (h' := sortedHeap (h2.push (seqObj "list" vs2.toArray 0)) h2.objs.size vs2 out) (fun b u eb => ?_) (Nat.le_refl _) ⟨ln, out.toList, e, vals_intsB a1, ?_⟩, rfl, q _ ms nD (ms_up a3 pms dnd) fun z => (pms.mem_iff).trans (dmem z)⟩
  · have lt : b < h2.objs.size := Heap.lt_size eb
    rw [sortedHeap_old (Nat.ne_of_lt lt) (by rw [Heap.size_push]; exact Nat.lt_succ_of_lt lt)]
    exact Heap.get?_push_of_some _ eb
  · rw [he]
end L2
set_option Elab.async false
set_option linter.all false
set_option maxRecDepth 100000
set_option maxHeartbeats 1000000
namespace L2
open PySem PySem.Spec PyProof.Rows PySem.W
end L2
set_option Elab.async false
set_option linter.all false
set_option maxRecDepth 100000
namespace L2
open PySem PySem.Spec PyProof.Rows PySem.W
end L2
set_option Elab.async false
set_option linter.all false
set_option maxRecDepth 100000
namespace L2
open PySem PySem.Spec PyProof.Rows PySem.W
section
variable {X : Cx}
theorem vals_refs : ∀ {bs : List Addr} {us : List Value}, Vals (bs.map V.ref) us → us = bs.map Value.ref
  | [], _, .nil => rfl
  | b :: bs, _, .cons e r => by
    cases e
    rw [vals_refs r]
    rfl
end
end L2
set_option Elab.async false
set_option linter.all false
set_option maxRecDepth 100000
namespace L2
open PySem PySem.Spec PyProof.Rows PySem.W
open AutoSeq1 (wpAny_loadPart')
open SeqAt (EqAt)
theorem wpAny_forIn_range0 {M : Model} {A : Around} {E : Value → Shared → Prop} {s : Shared} {β : Type} (f : Nat → β → Sem (ForInStep β)) (I : List Nat → β → Shared → Prop) (Q : β → Shared → Prop)
    (turn : ∀ x rest b s, I (x :: rest) b s → wpAny M A (f x b) (fun r s' => match r with | .yield b' => I rest b' s' | .done b' => Q b' s') E s)
    (fin : ∀ b s, I [] b s → Q b s) (n : Nat) (b : β) (h : I (List.range' 0 n) b s) : wpAny M A (forIn [0:n] b f) Q E s := by
  rw [Std.Legacy.Range.forIn_eq_forIn_range']
  refine wpAny_forIn_list f I Q turn fin _ b ?_
  simpa [Std.Legacy.Range.size] using h
theorem tuple_indexAt (l : Addr) (items : Array Value) (n : Nat) (dd : Option Addr) (sl : Array (Option Value)) (x : Value) (e : Value → Bool) (j : Nat) (hj : j < items.size) (hit : e items[j] = true) (hno : ∀ m (hm : m < items.size), m < j → e items[m] = false) :
    Meets (Builtin.«tuple.index» ⟨[.ref l, x], []⟩)
      (fun A R s => s.heap.get? l = some { cls := .type "tuple", dict := dd, data := .seq items n, slots := sl } ∧ (∀ y, y ∈ items → EqAt A.in1 s y x (e y)) ∧ R (.ok (.ret (.int j s.toks))) { s with toks := s.toks + 1 }) :=
  .of_wp fun prog w A R s h => by
    obtain ⟨hp, g, d, tk, os⟩ := s; obtain ⟨hl, he, h⟩ := h
    wp_walk using wpAny_loadPart' hl, wpAny_forIn_range0 _ (fun rest b s' => b.1 = none ∧ s' = ⟨hp, g, d, tk, os⟩ ∧ ∃ i, i ≤ j ∧ rest = List.range' i (items.size - i)) _
    case turn =>
      rintro i rest b s' ⟨hb, rfl, i0, hi0, er⟩
      have hsz : 0 < items.size - i0 := by omega
      obtain ⟨m, em⟩ : ∃ m, items.size - i0 = m + 1 := ⟨items.size - i0 - 1, by omega⟩
      rw [em, List.range'_succ] at er
      injection er with e1 e2
      subst e1
      have hil : i < items.size := by omega
      rw [Array.getElem?_eq_getElem hil]
      refine wpAny_bind (he _ (Array.getElem_mem hil) prog w _ _ ?_)
      by_cases c : i = j
      · subst c
        rw [hit]
        wp_walk
        exact ⟨_, rfl, h⟩
      · rw [hno i hil (by omega)]
        wp_walk
        exact ⟨rfl, rfl, i + 1, by omega, by rw [e2]; congr 1; omega⟩
    case fin =>
      rintro ⟨b1, b2⟩ s' ⟨hb, rfl, i0, hi0, er⟩
      exfalso
      have := congrArg List.length er
      rw [List.length_range'] at this
      simp at this
      omega
    case h =>
      exact ⟨rfl, rfl, 0, Nat.zero_le _, by simp⟩
section
variable {X : Cx}
theorem mt_indexT {K : PySem.W.Frag} (hK : X.K = K) (hu : X.A.units + 64 < cLine) : MtR X "tuple.index" (fun x vs H Q => ∃ (a : Addr) (bs : List Addr) (y : V) (e : Addr → Bool) (n j : Nat), x = .ref a ∧ vs = [y] ∧ SqT K H a (bs.map V.ref) ∧ n ≤ 16 ∧ (∀ b ∈ bs, EqR K H n (.ref b) y (e b)) ∧ bs[j]?.map e = some true ∧ (∀ m, m < j → bs[m]?.map e = some false) ∧ Q (.int (j : Int)) H) := by
  subst hK
  intro pins s σ H x xs v us Q I rx rxs h
  obtain ⟨a, bs, y, e, k, j, rfl, rfl, hq, hk, he, hj, hno, q⟩ := h
  cases rx
  obtain ⟨u, rfl, ru⟩ := vals1 rxs
  obtain ⟨its, rv, tp, hz⟩ := I.tuple hq
  have ei := vals_refs rv
  subst ei
  obtain ⟨⟨cls, dd, data, sl⟩, ho, hc, n, hd⟩ := id tp
  simp only at hc hd
  subst hc hd
  obtain ⟨b0, hb0, eb0⟩ := Option.map_eq_some_iff.mp hj
  obtain ⟨hjl, ej⟩ := List.getElem?_eq_some_iff.mp hb0
  have sz : (bs.map Value.ref).toArray.size = bs.length := by simp
  refine call_meets PySem.F.slot_tuple_index ⟨_, ho, rfl⟩ PySem.F.entry_tuple_index (PySem.F.args_tuple_index_2 _ _)
    (tuple_indexAt a (bs.map Value.ref).toArray n dd sl u (fun y => match y with | .ref b => e b | _ => false) j (by rw [sz]; exact hjl) (by simp [ej, eb0]) (fun m hm hlt => ?_)) ⟨ho, fun z hy => ?_, ⟨.int (j : Int), H, I.tok _, ⟨_, rfl⟩, q⟩⟩
  · obtain ⟨b1, hb1, eb1⟩ := Option.map_eq_some_iff.mp (hno m hlt)
    obtain ⟨hm', em⟩ := List.getElem?_eq_some_iff.mp hb1
    simp [em, eb1]
  · obtain ⟨b, hb, rfl⟩ := List.mem_map.mp (show z ∈ bs.map Value.ref by simpa using hy)
    exact (he b hb).at I (A := X.A.in1) (u := .ref b) (v := u) rfl ru (by show X.A.units + 1 + k < cLine; omega)
end
end L2
set_option Elab.async false
set_option linter.all false
set_option maxRecDepth 100000
namespace L2
open PySem PySem.Spec PyProof.Rows PySem.W
def TpF (H : Hp) (a : Addr) (xs : List V) : Prop := ∃ o : Obj, H a = some (.frz o (.tup xs)) ∧ o.cls = .type "tuple" ∧ o.dict = none
theorem TpF.same {H H' : Hp} (S : Same H H') {a : Addr} {xs : List V} (h : TpF H a xs) : TpF H' a xs := let ⟨o, e, r⟩ := h; ⟨o, S _ _ e, r⟩
theorem TpF.sq {K : PySem.W.Frag} {H : Hp} {a : Addr} {xs : List V} (h : TpF H a xs) : SqT K H a xs := let ⟨o, e, _⟩ := h; .inl (.inr ⟨o, e⟩)
theorem TpF.new {H : Hp} {a : Addr} {o : Obj} {xs : List V} (c : o.cls = .type "tuple") (d : o.dict = none) : TpF (upd H a (.frz o (.tup xs))) a xs := ⟨o, upd_same, c, d⟩
section
variable {X : Cx}
theorem call_tuple_fz : CallR X (.type "tuple") (fun xs H Q => ∃ p ys, xs = [.ref p] ∧ SqL X.K H p ys ∧ ∀ (l : Addr) (o : Obj), H l = none → o.cls = .type "tuple" → o.dict = none → Q (.ref l) (upd H l (.frz o (.tup ys)))) := by
  intro pins s σ H xs us Q I r h
  obtain ⟨p, ys, rfl, hq, q⟩ := h
  obtain ⟨u, rfl, rx⟩ := vals1 r
  cases rx
  obtain ⟨its, r', pl, hz⟩ := I.list hq
  have hlen := r'.length
  refine call_tuple_list pl.isList (fun h' kp => ?_) (by simp only [List.size_toArray] <;> omega)
  have I1 : Inv X pins σ H { s with heap := h' } := I.kept (t' := s.toks) kp
  have I2 : Inv X pins σ (upd H h'.objs.size (.frz { cls := .type "tuple", data := .seq its.toArray } (.tup ys))) { s with heap := h'.push { cls := .type "tuple", data := .seq its.toArray } } :=
    I1.laid (t' := s.toks) (fun b o e => Heap.get?_push_of_some _ e) (Nat.le_refl _) (show ObjOk X.prog X.w _ _ _ (.frz _ (.tup ys)) from ⟨Heap.get?_push_size _ rfl, hz, its, r', IsTup.new _ _⟩)
  exact ⟨.ref h'.objs.size, _, I2, rfl, q _ _ (I1.hok.fresh (Nat.le_refl _)) rfl rfl⟩
def tBMT (r : V → List V → Hp → VK → Prop) (to : TE) (t : TA) : TE := fun σ H Q => to σ H fun x H1 => (∃ p xs, x = .ref p ∧ TpF H1 p xs) ∧ t σ H1 fun xs H2 => r x xs H2 Q
variable {o e : Expr} {es : List Expr} {to : TE} {t : TA} {name : Str} {apos cpos : Pos} {id : String} {r : V → List V → Hp → VK → Prop}
theorem pe_bmT (slot : Slot "tuple" name id) (hty : typeOf (.builtin id) = pure (.type "method_descriptor")) (hm : MtR X id r) (ho : PE X o to) (ha : PA X (e :: es) t)
    (hbase : attributeBase o name X.env (eval o X.env) = eval o X.env := by rfl)
    (hfew : ((backTo cpos (starEach (e :: es) X.env)).all (fun x => !x.1) && (backToKw cpos (keywordEach [] X.env)).all (fun x => x.1.isSome)
      && decide ((e :: es).length + ([] : List Keyword).length + (if ([] : List Keyword).isEmpty then 0 else 1) < 30)) = true := by rfl)
    (hline : (apos.endLine == cpos.line) = true := by rfl) (hs : starEach (e :: es) X.env = (false, eval e X.env) :: starEach es X.env := by rfl) (hplain : (backTo cpos (starEach es X.env)).any (·.1) = false := by rfl) :
    PE X (.Call (.Attribute o name apos) (e :: es) [] cpos) (tBMT r to t) := by
  intro pins s σ H Q I h
  refine wpAny_Call_method_late hbase hfew hline rfl (thn (ho pins s σ H _ I h) fun v s1 ⟨x, H1, I1, r1, ty, q1⟩ => ?_)
  obtain ⟨p, ys, rfl, ob, hp, hc, hd⟩ := ty
  cases r1
  have e : s1.heap.get? p = some ob := (show ObjOk X.prog X.w H1 s1.heap p (.frz ob (.tup ys)) from I1.hok p _ hp).1
  refine ⟨"tuple", id, PySem.F.plainAttrs_tuple, slot, hty, ⟨ob, e, hc⟩, (fun a z => by cases z; exact ⟨ob, e, hd⟩), ?_⟩
  have hA := ha cpos pins s1 σ H1 _ I1 q1
  rw [hs] at hA ⊢
  refine Calls.callWith_builtin (by show (false || (backTo cpos (starEach es X.env)).any (·.1)) = false; rw [hplain] <;> rfl) (Calls.evalArgs_plain ?_)
  exact thn hA fun us s2 ⟨vs, H2, I2, r2, q2⟩ => hm pins s2 σ H2 (.ref p) vs (.ref p) us Q I2 rfl r2 q2
end
end L2
set_option Elab.async false
set_option linter.all false
namespace L2
open PySem
end L2
set_option Elab.async false
set_option linter.all false
set_option maxRecDepth 100000
set_option maxHeartbeats 1000000
namespace JC
open PySem L2 Til PySem.W
def PageAt (H : Hp) (pg : Addr) (wd hg : Int) (bs : List Bx) : Prop := ∃ tb us, H pg = some (.tup [.int wd, .int hg, .ref tb]) ∧ TpF H tb us ∧ BoxesAt H us bs ∧ bs.length ≤ 24
theorem PageAt.same {H H' : Hp} (S : Same H H') {pg : Addr} {wd hg : Int} {bs : List Bx} (h : PageAt H pg wd hg bs) : PageAt H' pg wd hg bs :=
  let ⟨tb, us, a, b, c, d⟩ := h; ⟨tb, us, S _ _ a, TpF.same S b, c.same S, d⟩
def j2 (s : Int × Int) : List Int := [s.1, s.2]
def acrS (sp : List (Int × Int)) (e : Int) : Bool := sp.any fun s => decide (s.1 < e) && decide (e < s.2)
def spLiw : Sp := fun vs H Q _ => ∃ (v u : V) (b p : Bx), vs = [v, u] ∧ BoxAt H v b ∧ BoxAt H u p ∧ Q (.bl (wthn p b)) H
def spBin : Sp := fun vs H Q _ => ∃ (pg : Addr) (u : V) (W G : Int) (cs : List Bx) (p : Bx), vs = [.ref pg, u] ∧ PageAt H pg W G cs ∧ BoxAt H u p ∧
  ∀ (l : Addr) (us : List V) (H' : Hp), Same H H' → H l = none → H' l = some (.lst us) → BoxesAt H' us (cs.filter (wthn p)) → Q (.ref l) H'
def spLii : Sp := fun vs H Q _ => ∃ (l : Addr) (us : List V) (sp : List (Int × Int)) (e : Int), vs = [.int e, .ref l] ∧ H l = some (.lst us) ∧ IvsAt H us (sp.map j2) ∧ sp.length ≤ 24 ∧ ∀ H', Same H H' → Q (.bl (acrS sp e)) H'
theorem no_old {H H' : Hp} {l : Addr} (S : Same H H') (h : H' l = none) : H l = none := by
  cases z : H l with
  | none => rfl
  | some o => rw [S _ _ z] at h; cases h
section
variable {P : Program} {w : World} {K : PySem.W.Frag} {mg : Str → Option Value} {base : Heap}
theorem evl_andB {ta tb : TE} {σ : St} {H : Hp} {p q : Bool} (a : Evl ta σ H (.bl p)) (b : Evl tb σ H (.bl q)) : Evl (tAndV ta tb) σ H (.bl (p && q)) := fun Q z => a _ ⟨p, rfl, by
  cases p with
  | true => exact iteT (b _ z)
  | false => exact iteF z⟩
theorem scLiw : FnScope ["box", "piece", "across", "down"] ["box", "piece"] (defScope sLiw) := ⟨rfl, rfl, rfl, by decide +kernel, rfl, by decide +kernel, by decide +kernel⟩
theorem ok_liw {f : Addr} {fd : FuncData} (F : Fun K "lies_within" "lies_within" sLiw f fd) (gLEFT : GI mg "LEFT" 0) (gTOP : GI mg "TOP" 1) (gRIGHT : GI mg "RIGHT" 2) (gBELOW : GI mg "BELOW" 3) : FnOk P w K mg base CX0 1 f fd ["box", "piece"] spLiw := by
  refine F.ok scLiw (fun vs H Q E h => ?_) (fun cdv A outer s H vs Q E hr h => ?_)
  · obtain ⟨v, u, b, p, rfl, _⟩ := h
    rfl
  · obtain ⟨v, u, b, p, rfl, ⟨x, rfl, hx⟩, ⟨y, rfl, hy⟩, q⟩ := h
    refine ⟨_, (pss_cons (ps_set (i := 2) scLiw.nd rfl (Or.inl rfl) (pe_and (pe_cmpR op_le (pe_ix ix_tup (pv 1) (pe_gi rfl gLEFT) (fun _ _ => rfl)) (pe_ix ix_tup (pv 0) (pe_gi rfl gLEFT) (fun _ _ => rfl)) (nomark _)) (pe_one (pe_cmpR op_le (pe_ix ix_tup (pv 0) (pe_gi rfl gRIGHT) (fun _ _ => rfl)) (pe_ix ix_tup (pv 1) (pe_gi rfl gRIGHT) (fun _ _ => rfl)) (nomark _)))))
      (pss_cons (ps_set (i := 3) scLiw.nd rfl (Or.inl rfl) (pe_and (pe_cmpR op_le (pe_ix ix_tup (pv 1) (pe_gi rfl gTOP) (fun _ _ => rfl)) (pe_ix ix_tup (pv 0) (pe_gi rfl gTOP) (fun _ _ => rfl)) (nomark _)) (pe_one (pe_cmpR op_le (pe_ix ix_tup (pv 0) (pe_gi rfl gBELOW) (fun _ _ => rfl)) (pe_ix ix_tup (pv 1) (pe_gi rfl gBELOW) (fun _ _ => rfl)) (nomark _)))))
      (pss_one (ps_ret (pe_and (pv 2) (pe_one (pv 3))))))), ?_⟩
    have t := box_four hx K
    have t' := box_four hy K
    refine seq_asg (v := .bl (decide (p.l ≤ b.l) && decide (b.r ≤ p.r))) (evl_andB (evl_I0 (evl_ixT (evl_var rfl) evl_c t' rfl) (evl_ixT (evl_var rfl) evl_c t rfl)) (evl_I0 (evl_ixT (evl_var rfl) evl_c t rfl) (evl_ixT (evl_var rfl) evl_c t' rfl))) ?_
    refine seq_asg (v := .bl (decide (p.t ≤ b.t) && decide (b.b ≤ p.b))) (evl_andB (evl_I0 (evl_ixT (evl_var rfl) evl_c t' rfl) (evl_ixT (evl_var rfl) evl_c t rfl)) (evl_I0 (evl_ixT (evl_var rfl) evl_c t rfl) (evl_ixT (evl_var rfl) evl_c t' rfl))) ?_
    exact run_ret (v := .bl (wthn p b)) (evl_andB (evl_var rfl) (evl_var rfl)) q
theorem scBin : FnScope ["page", "piece"] ["page", "piece"] (defScope sBin) := ⟨rfl, rfl, rfl, by decide +kernel, rfl, by decide +kernel, by decide +kernel⟩
theorem take_flt {α : Type} (q : α → Bool) {bs : List α} {i : Nat} {b : α} (h : bs[i]? = some b) : (bs.take (i + 1)).filter q = (bs.take i).filter q ++ if q b = true then [b] else [] := by
  rw [List.take_add_one, h, List.filter_append]
  congr 1
  show List.filter q [b] = _
  rw [List.filter_cons]
  rfl
theorem ok_bin {f fL : Addr} {fd dL : FuncData} (F : Fun K "boxes_in" "boxes_in" sBin f fd) (gBOXES : GI mg "BOXES" 2) (Li : Callee P w K mg base CX0 1 "lies_within" fL dL ["box", "piece"] spLiw) : FnOk P w K mg base CX0 2 f fd ["page", "piece"] spBin := by
  refine F.ok scBin (fun vs H Q E h => ?_) (fun cdv A outer s H vs Q E hr h => ?_)
  · obtain ⟨pg, u, W, G, cs, p, rfl, _⟩ := h
    rfl
  · obtain ⟨pg, u, W, G, cs, p, rfl, ⟨tb, us, hpg, htb, hB, h24⟩, hu, q⟩ := h
    refine ⟨_, (pss_one (ps_ret (pe_comp (Nc := ["box", "piece"]) (ix := [none, some 1]) rfl rfl (by exact (pi_tup (pe_ix ix_tup (pv 0) (pe_gi rfl gBOXES) (fun _ _ => rfl)))) (fun _ _ _ _ _ => (pg_name (i := 0) (by show (["box", "piece"] : List Str).Nodup; decide +kernel) rfl (Or.inl rfl))) (fun _ _ _ _ _ => (pts_one (pt_val (pe_call Li.ok hr rfl Li.bound Li.kp Li.bd .nil pass0 (pa_cons (pv 0) (pa_cons (pv 1) pa_nil)))))) (fun _ _ _ _ _ => (pv 0))))), ?_⟩
    have lu := hB.len
    refine ⟨_, rfl, pg, _, _, _, rfl, rfl, SqT.of hpg, rfl, tb, rfl, ⟨_, htb.sq⟩, cmp_tup (K := K) (a := tb) (xs := us) (fun i ys σ H' => ∃ o, σ = [o, some u] ∧ BoxesAt H ys ((cs.take i).filter (wthn p)) ∧ Same H H')
      ⟨none, rfl, .nil, Same.refl _⟩ (fun i ys σ H' hi ⟨_, _, e, S⟩ => ⟨?_, (TpF.same S htb).sq⟩) ?_ ?_⟩
    · have := e.len
      have := List.length_filter_le (wthn p) (cs.take i)
      rw [List.length_take] at this
      exact Nat.le_trans (show _ ≤ 1000 by omega) (by decide)
    · rintro ys σ H' ⟨_, _, e, S⟩ l nl
      rw [lu, List.take_length] at e
      have S2 := S.trans (same_new (o := .lst ys) nl)
      exact q l ys _ S2 (no_old S nl) upd_same (e.same S2)
    · rintro i x ys σ H' hx ⟨o, rfl, e, S⟩
      have hi : i < cs.length := by rw [← lu]; exact (List.getElem?_eq_some_iff.mp hx).1
      have eb : cs[i]? = some cs[i] := List.getElem?_eq_getElem hi
      generalize cs[i] = b at eb
      obtain ⟨v, hv, hb⟩ := hB.get eb
      rw [hx] at hv
      cases hv
      dsimp only [gName]
      refine ⟨_, rfl, _, rfl, x, u, b, p, rfl, hb.same S, hu.same S, _, rfl, ?_⟩
      refine ite2 (fun c1 => ?_) (fun c1 => ?_)
      · exact ⟨_, rfl, _, rfl, by rw [take_flt _ eb, if_pos c1]; exact Paired.snoc e hb, S⟩
      · exact ⟨_, rfl, by rw [take_flt _ eb, if_neg c1, List.append_nil]; exact e, S⟩
theorem scLii : FnScope ["place", "spans"] ["place", "spans"] (defScope sLii) := ⟨rfl, rfl, rfl, by decide +kernel, rfl, by decide +kernel, by decide +kernel⟩
theorem ok_lii {f : Addr} {fd : FuncData} (F : Fun K "lies_inside" "lies_inside" sLii f fd) (tany : mg "any" = none) : FnOk P w K mg base CX0 1 f fd ["place", "spans"] spLii := by
  refine F.ok scLii (fun vs H Q E h => ?_) (fun cdv A outer s H vs Q E hr h => ?_)
  · obtain ⟨l, us, sp, e, rfl, _⟩ := h
    rfl
  · obtain ⟨l, us, sp, e, rfl, hl, hI, h24, q⟩ := h
    refine ⟨_, (pss_one (ps_ret (pe_callB (call_anyL rfl) (by rfl) tany PyProof.Rows.boot_any (pa_cons (pe_comp (Nc := ["first", "last", "place"]) (ix := [none, none, some 0]) rfl rfl (by refine' pi_list ?zz; case zz => exact (pv 1)) (fun _ _ _ _ _ => (pg_tupK (K := K) (n := 2) rfl rfl (pgs_cons (pg_name (i := 0) (by show (["first", "last", "place"] : List Str).Nodup; decide +kernel) rfl (Or.inl rfl)) (pgs_cons (pg_name (i := 1) (by show (["first", "last", "place"] : List Str).Nodup; decide +kernel) rfl (Or.inl rfl)) pgs_nil)))) (fun _ _ _ _ _ => pts_nil) (fun _ _ _ _ _ => (pe_chain op_lt op_lt (pv 0) (pv 2) (pv 1)))) pa_nil)))), ?_⟩
    have lu := hI.len
    rw [List.length_map] at lu
    refine ⟨_, rfl, l, rfl, ⟨_, SqL.of hl⟩, cmp_list (K := K) (a := l) (xs := us) (fun i ys σ H' => (∃ o1 o2, σ = [o1, o2, some (.int e)]) ∧ ys = (sp.take i).map (fun s => V.bl (decide (s.1 < e) && decide (e < s.2))) ∧ Same H H')
      ⟨⟨none, none, rfl⟩, rfl, Same.refl _⟩ (fun i ys σ H' hi ⟨_, e1, S⟩ => ⟨by rw [e1, List.length_map, List.length_take]; exact Nat.le_trans (show _ ≤ 1000 by omega) (by decide), SqL.of (S _ _ hl)⟩) ?_ ?_⟩
    · rintro ys σ H' ⟨_, e1, S⟩ la nl
      rw [lu, List.take_length] at e1
      subst e1
      refine ⟨la, sp.map (fun s => decide (s.1 < e) && decide (e < s.2)), rfl, SqL.of (by rw [upd_same, List.map_map]; rfl), ?_⟩
      have S2 := S.trans (same_new (o := .lst (sp.map fun s => V.bl (decide (s.1 < e) && decide (e < s.2)))) nl)
      have z := q _ S2
      unfold acrS at z
      rw [List.any_map]
      exact z
    · rintro i x ys σ H' hx ⟨⟨o1, o2, rfl⟩, e1, S⟩
      subst e1
      have hi : i < sp.length := by rw [← lu]; exact (List.getElem?_eq_some_iff.mp hx).1
      have eb : sp[i]? = some sp[i] := List.getElem?_eq_getElem hi
      generalize sp[i] = b at eb
      obtain ⟨z, hz, p, rfl, hp⟩ := paired_get' hI hx
      rw [List.getElem?_map, eb] at hz
      cases hz
      refine ⟨p, _, rfl, SqT.of (S _ _ hp), rfl, _, _, rfl, _, _, rfl, rfl, ?_⟩
      dsimp only [tYes]
      refine iteT ?_
      refine (evl_chain (i := b.1) (j := e) (k := b.2) (evl_var rfl) (evl_var rfl) (evl_var rfl)) _ ?_
      refine ⟨⟨_, _, rfl⟩, ?_, S⟩
      rw [List.take_add_one, eb, List.map_append]
      rfl
end
end JC
set_option Elab.async false
set_option linter.all false
set_option maxRecDepth 100000
set_option maxHeartbeats 1000000
namespace JC
open PySem L2 Til PySem.W
def spUnc : Sp := fun vs H Q _ => ∃ (l : Addr) (us : List V) (sp : List (Int × Int)), vs = [.ref l] ∧ H l = some (.lst us) ∧ IvsAt H us (sp.map j2) ∧ sp.length ≤ 24 ∧
  ∀ (D : Addr) (ms : List Int) (H' : Hp), Same H H' → H D = none → ms.Pairwise (· < ·) → (∀ z, z ∈ ms ↔ z ∈ sp.map (·.1) ++ sp.map (·.2)) → H' D = some (.lst ((ms.filter fun e => !acrS sp e).map V.int)) → Q (.ref D) H'
theorem sub_len {ms ns : List Int} (up : ms.Pairwise (· < ·)) (mem : ∀ z, z ∈ ms ↔ z ∈ ns) : ms.length ≤ ns.length := by
  have key : ∀ (ms ns : List Int), ms.Pairwise (· < ·) → (∀ z ∈ ms, z ∈ ns) → ms.length ≤ ns.length := by
    intro ms
    induction ms with
    | nil => intro ns _ _; exact Nat.zero_le _
    | cons a l ih =>
      intro ns up sub
      obtain ⟨h1, h2⟩ := List.pairwise_cons.mp up
      have ha := sub a List.mem_cons_self
      have := ih (ns.erase a) h2 fun z hz => (List.mem_erase_of_ne (by have := h1 z hz; omega)).mpr (sub z (List.mem_cons_of_mem _ hz))
      rw [List.length_erase_of_mem ha] at this
      have : 0 < ns.length := List.length_pos_of_mem ha
      rw [List.length_cons]
      omega
  exact key ms ns up fun z h => (mem z).mp h
section
variable {P : Program} {w : World} {K : PySem.W.Frag} {mg : Str → Option Value} {base : Heap}
theorem scUnc : FnScope ["spans", "ends"] ["spans"] (defScope sUnc) := ⟨rfl, rfl, rfl, by decide +kernel, rfl, by decide +kernel, by decide +kernel⟩
theorem ok_unc {f fL : Addr} {fd dL : FuncData} (F : Fun K "uncut_ends" "uncut_ends" sUnc f fd) (ts : mg "sorted" = none) (tset : mg "set" = none) (Li : Callee P w K mg base CX0 1 "lies_inside" fL dL ["place", "spans"] spLii) : FnOk P w K mg base CX0 2 f fd ["spans"] spUnc := by
  refine F.ok scUnc (fun vs H Q E h => ?_) (fun cdv A outer s H vs Q E hr h => ?_)
  · obtain ⟨l, us, sp, rfl, _⟩ := h
    rfl
  · obtain ⟨l, us, sp, rfl, hl, hI, h24, q⟩ := h
    refine ⟨_, (pss_cons (ps_set (i := 1) scUnc.nd rfl (Or.inl rfl) (pe_op op_cat (pe_comp (Nc := ["span"]) (ix := [none]) rfl rfl (by refine' pi_list ?zz; case zz => exact (pv 0)) (fun _ _ _ _ _ => (pg_name (i := 0) (by show (["span"] : List Str).Nodup; decide +kernel) rfl (Or.inl rfl))) (fun _ _ _ _ _ => pts_nil) (fun _ _ _ _ _ => (pe_ix (ix_tupK (K := K) rfl) (pv 0) pe_int (fun _ _ => rfl)))) (pe_comp (Nc := ["span"]) (ix := [none]) rfl rfl (by refine' pi_list ?zz; case zz => exact (pv 0)) (fun _ _ _ _ _ => (pg_name (i := 0) (by show (["span"] : List Str).Nodup; decide +kernel) rfl (Or.inl rfl))) (fun _ _ _ _ _ => pts_nil) (fun _ _ _ _ _ => (pe_ix (ix_tupK (K := K) rfl) (pv 0) pe_int (fun _ _ => rfl))))))
      (pss_one (ps_ret (pe_comp (Nc := ["place", "spans"]) (ix := [none, some 0]) rfl rfl (by refine' pi_list ?zz; case zz => exact (pe_setSort rfl ts rfl tset rfl (pv 1))) (fun _ _ _ _ _ => (pg_name (i := 0) (by show (["place", "spans"] : List Str).Nodup; decide +kernel) rfl (Or.inl rfl))) (fun _ _ _ _ _ => (pts_one (pt_not (pt_val (pe_call Li.ok hr rfl Li.bound Li.kp Li.bd .nil pass0 (pa_cons (pv 0) (pa_cons (pv 1) pa_nil))))))) (fun _ _ _ _ _ => (pv 0)))))), ?_⟩
    have lu := hI.len
    rw [List.length_map] at lu
    have at_ : ∀ {H' : Hp}, Same H H' → ∀ {i : Nat} {x : V}, us[i]? = some x → ∃ (p : Addr) (b : Int × Int), x = .ref p ∧ sp[i]? = some b ∧ SqT K H' p [.int b.1, .int b.2] := by
      intro H' S i x hx
      have hi : i < sp.length := by rw [← lu]; exact (List.getElem?_eq_some_iff.mp hx).1
      have eb : sp[i]? = some sp[i] := List.getElem?_eq_getElem hi
      obtain ⟨z, hz, p, rfl, hp⟩ := paired_get' hI hx
      rw [List.getElem?_map, eb] at hz
      cases hz
      exact ⟨p, _, rfl, eb, SqT.of (S _ _ hp)⟩
    have small : ∀ (g : Int × Int → V) (i : Nat) (ys : List V), ys = (sp.take i).map g → ys.length ≤ sizeLine := fun g i ys e => by
      rw [e, List.length_map, List.length_take]
      exact Nat.le_trans (show _ ≤ 1000 by omega) (by decide)
    have push : ∀ (g : Int × Int → V) (i : Nat) (b : Int × Int), sp[i]? = some b → (sp.take i).map g ++ [g b] = (sp.take (i + 1)).map g := fun g i b eb => by
      rw [List.take_add_one, eb, List.map_append]
      rfl
    refine ⟨_, rfl, l, rfl, ⟨_, SqL.of hl⟩, cmp_list (K := K) (a := l) (xs := us) (fun i ys σ H' => (∃ o, σ = [o]) ∧ ys = (sp.take i).map (fun s => V.int s.1) ∧ Same H H')
      ⟨⟨none, rfl⟩, rfl, Same.refl _⟩ (fun i ys σ H' hi ⟨_, e1, S⟩ => ⟨small _ i ys e1, SqL.of (S _ _ hl)⟩) ?_ ?_⟩
    · rintro ys σ H1 ⟨_, e1, S1⟩ la nla
      rw [lu, List.take_length] at e1
      have hla : upd H1 la (.lst ys) la = some (.lst ys) := upd_same
      have S2 := S1.trans (same_new (o := .lst ys) nla)
      generalize upd H1 la (.lst ys) = H2 at hla S2
      refine ⟨_, rfl, l, rfl, ⟨_, SqL.of (S2 _ _ hl)⟩, cmp_list (K := K) (a := l) (xs := us) (fun i zs σ H' => (∃ o, σ = [o]) ∧ zs = (sp.take i).map (fun s => V.int s.2) ∧ Same H2 H')
        ⟨⟨none, rfl⟩, rfl, Same.refl _⟩ (fun i zs σ H' hi ⟨_, e2, S⟩ => ⟨small _ i zs e2, SqL.of (S _ _ (S2 _ _ hl))⟩) ?_ ?_⟩
      · rintro zs σ H3 ⟨_, e2, S3⟩ lb nlb
        rw [lu, List.take_length] at e2
        have hlb : upd H3 lb (.lst zs) lb = some (.lst zs) := upd_same
        have S4 := S3.trans (same_new (o := .lst zs) nlb)
        generalize upd H3 lb (.lst zs) = H4 at hlb S4
        refine ⟨la, lb, ys, zs, rfl, rfl, S4 _ _ hla, hlb, by rw [e1, e2, List.length_map, List.length_map]; exact Nat.le_trans (show _ ≤ 1000 by omega) (by decide), fun lc nlc => ?_⟩
        have hlc : upd H4 lc (.lst (ys ++ zs)) lc = some (.lst (ys ++ zs)) := upd_same
        have S5 := (S2.trans S4).trans (same_new (o := .lst (ys ++ zs)) nlc)
        generalize upd H4 lc (.lst (ys ++ zs)) = H5 at hlc S5
        refine run_gname ?_
        dsimp only
        have eN : ys ++ zs = (sp.map (·.1) ++ sp.map (·.2)).map V.int := by
          rw [e1, e2, List.map_append, List.map_map, List.map_map]
          rfl
        rw [eN] at hlc
        refine ⟨_, rfl, lc, _, rfl, SqL.of hlc, by rw [List.length_append, List.length_map, List.length_map]; omega, fun D ms nD up mem => ?_⟩
        have hD : upd H5 D (.lst (ms.map V.int)) D = some (.lst (ms.map V.int)) := upd_same
        have S6 := S5.trans (same_new (o := .lst (ms.map V.int)) nD)
        generalize upd H5 D (.lst (ms.map V.int)) = H6 at hD S6
        have m64 : ms.length ≤ 48 := by
          have := sub_len up mem
          rw [List.length_append, List.length_map, List.length_map] at this
          omega
        refine ⟨D, rfl, ⟨_, SqL.of hD⟩, cmp_list (K := K) (a := D) (xs := ms.map V.int) (fun i rs σ H' => (∃ o, σ = [o, some (.ref l)]) ∧ rs = ((ms.take i).filter fun e => !acrS sp e).map V.int ∧ Same H6 H')
          ⟨⟨none, rfl⟩, rfl, Same.refl _⟩ (fun i rs σ H' hi ⟨_, e3, S⟩ => ⟨?_, SqL.of (S _ _ hD)⟩) ?_ ?_⟩
        · have := List.length_filter_le (fun e => !acrS sp e) (ms.take i)
          rw [List.length_take] at this
          rw [e3, List.length_map]
          exact Nat.le_trans (show _ ≤ 1000 by omega) (by decide)
        · rintro rs σ H7 ⟨_, e3, S7⟩ le nle
          rw [List.length_map, List.take_length] at e3
          have S8 := (S6.trans S7).trans (same_new (o := .lst rs) nle)
          exact q le ms _ S8 (no_old (S6.trans S7) nle) up mem (by rw [upd_same, e3])
        · rintro i x rs σ H7 hx ⟨⟨o, rfl⟩, e3, S7⟩
          have hi : i < ms.length := by
            have := (List.getElem?_eq_some_iff.mp hx).1
            rwa [List.length_map] at this
          have eb : ms[i]? = some ms[i] := List.getElem?_eq_getElem hi
          generalize ms[i] = b at eb
          rw [List.getElem?_map, eb] at hx
          cases hx
          dsimp only [gName]
          have S67 := S6.trans S7
          refine ⟨_, rfl, _, rfl, l, us, sp, b, rfl, S67 _ _ hl, hI.same S67, h24, fun H8 S8 => ?_⟩
          refine ⟨_, rfl, ?_⟩
          refine ite2 (fun c1 => ?_) (fun c1 => ?_)
          · exact ⟨_, rfl, ⟨_, rfl⟩, by rw [e3, take_flt _ eb, if_pos c1, List.map_append]; rfl, S7.trans S8⟩
          · exact ⟨⟨_, rfl⟩, by rw [e3, take_flt _ eb, if_neg c1, List.append_nil], S7.trans S8⟩
      · rintro i x zs σ H' hx ⟨⟨o, rfl⟩, e2, S⟩
        obtain ⟨p, b, rfl, eb, t⟩ := at_ (S2.trans S) hx
        subst e2
        dsimp only [gName, tYes]
        refine iteT ?_
        exact (evl_ixT (evl_var rfl) evl_c t rfl) _ ⟨⟨_, rfl⟩, push _ i b eb, S⟩
    · rintro i x ys σ H' hx ⟨⟨o, rfl⟩, e1, S⟩
      obtain ⟨p, b, rfl, eb, t⟩ := at_ S hx
      subst e1
      dsimp only [gName, tYes]
      refine iteT ?_
      exact (evl_ixT (evl_var rfl) evl_c t rfl) _ ⟨⟨_, rfl⟩, push _ i b eb, S⟩
end
end JC
set_option Elab.async false
set_option linter.all false
set_option maxRecDepth 100000
set_option maxHeartbeats 1000000
namespace JC
open PySem L2 Til PySem.W
def pcs (p : Bx) (us : List Int) : List Bx := (us.zip (us.drop 1)).map fun q => ⟨q.1, p.t, q.2, p.b⟩
def spPrt (fl : Bx → Bx) : Sp := fun vs H Q _ => ∃ (pg : Addr) (u : V) (W G : Int) (cs : List Bx) (p : Bx), vs = [.ref pg, u] ∧ PageAt H pg W G cs ∧ BoxAt H u p ∧
  ∀ (l : Addr) (vl : List V) (ms : List Int) (H' : Hp), Same H H' → H l = none → ms.Pairwise (· < ·) → (∀ z, z ∈ ms ↔ z ∈ ((cs.filter (wthn p)).map fl).map (·.l) ++ ((cs.filter (wthn p)).map fl).map (·.r)) → ms.length ≤ 48 →
    H' l = some (.lst vl) → BoxesAt H' vl ((pcs (fl p) (ms.filter fun e => !acr ((cs.filter (wthn p)).map fl) e)).map fl) → Q (.ref l) H'
section
variable {P : Program} {w : World} {K : PySem.W.Frag} {mg : Str → Option Value} {base : Heap}
theorem acrS_eq (fl : Bx → Bx) (bs : List Bx) (e : Int) : acrS ((bs.map fl).map fun b => (b.l, b.r)) e = acr (bs.map fl) e := by
  unfold acrS acr
  rw [List.any_map]
  rfl
theorem scPac : FnScope ["page", "piece", "places"] ["page", "piece"] (defScope sPac) := ⟨rfl, rfl, rfl, by decide +kernel, rfl, by decide +kernel, by decide +kernel⟩
theorem ok_pac {f fB fU : Addr} {fd dB dU : FuncData} (F : Fun K "parted_across" "parted_across" sPac f fd) (gLEFT : GI mg "LEFT" 0) (gTOP : GI mg "TOP" 1) (gRIGHT : GI mg "RIGHT" 2) (gBELOW : GI mg "BELOW" 3) (tzip : mg "zip" = none)
    (Bi : Callee P w K mg base CX0 2 "boxes_in" fB dB ["page", "piece"] spBin) (Un : Callee P w K mg base CX0 2 "uncut_ends" fU dU ["spans"] spUnc) : FnOk P w K mg base CX0 3 f fd ["page", "piece"] (spPrt id) := by
  refine F.ok scPac (fun vs H Q E h => ?_) (fun cdv A outer s H vs Q E hr h => ?_)
  · obtain ⟨pg, u, W, G, cs, p, rfl, _⟩ := h
    rfl
  · obtain ⟨pg, u, W, G, cs, p, rfl, hPG, hu, q⟩ := h
    refine ⟨_, (pss_cons (ps_set (i := 2) scPac.nd rfl (Or.inl rfl) (pe_call Un.ok hr rfl Un.bound Un.kp Un.bd .nil pass0 (pa_cons (pe_comp (Nc := ["box"]) (ix := [none]) rfl rfl (by refine' pi_list ?zz; case zz => exact (pe_call Bi.ok hr rfl Bi.bound Bi.kp Bi.bd .nil pass0 (pa_cons (pv 0) (pa_cons (pv 1) pa_nil)))) (fun _ _ _ _ _ => (pg_name (i := 0) (by show (["box"] : List Str).Nodup; decide +kernel) rfl (Or.inl rfl))) (fun _ _ _ _ _ => pts_nil) (fun _ _ _ _ _ => (pe_tup (pa_cons (pe_ix (ix_tupK (K := K) rfl) (pv 0) (pe_gi rfl gLEFT) (fun _ _ => rfl)) (pa_cons (pe_ix (ix_tupK (K := K) rfl) (pv 0) (pe_gi rfl gRIGHT) (fun _ _ => rfl)) pa_nil))))) pa_nil)))
      (pss_one (ps_ret (pe_comp (Nc := ["left", "right", "piece"]) (ix := [none, none, some 1]) rfl rfl (by exact (pi_zip rfl tzip (pa_cons (pv 2) (pa_cons (pe_slice sl_list (pv 2) (po_some pe_int) po_none) pa_nil)))) (fun _ _ _ _ _ => (pg_tupK (K := K) (n := 2) rfl rfl (pgs_cons (pg_name (i := 0) (by show (["left", "right", "piece"] : List Str).Nodup; decide +kernel) rfl (Or.inl rfl)) (pgs_cons (pg_name (i := 1) (by show (["left", "right", "piece"] : List Str).Nodup; decide +kernel) rfl (Or.inl rfl)) pgs_nil)))) (fun _ _ _ _ _ => pts_nil) (fun _ _ _ _ _ => (pe_tup (pa_cons (pv 0) (pa_cons (pe_ix (ix_tupK (K := K) rfl) (pv 2) (pe_gi rfl gTOP) (fun _ _ => rfl)) (pa_cons (pv 1) (pa_cons (pe_ix (ix_tupK (K := K) rfl) (pv 2) (pe_gi rfl gBELOW) (fun _ _ => rfl)) pa_nil)))))))))), ?_⟩
    have h24 : (cs.filter (wthn p)).length ≤ 24 := Nat.le_trans (List.length_filter_le _ _) (let ⟨_, _, _, _, _, h⟩ := hPG; h)
    refine ⟨_, rfl, _, rfl, pg, u, W, G, cs, p, rfl, hPG, hu, fun lb ub H1 S1 nlb hlb hB => ?_⟩
    rw [List.map_id] at q
    generalize cs.filter (wthn p) = bs at h24 hB q
    have lu := hB.len
    refine ⟨lb, rfl, ⟨_, SqL.of hlb⟩, cmp_list (K := K) (a := lb) (xs := ub) (fun i ys σ H' => (∃ o, σ = [o]) ∧ IvsAt H' ys (((bs.take i).map fun b => (b.l, b.r)).map j2) ∧ Same H1 H')
      ⟨⟨none, rfl⟩, .nil, Same.refl _⟩ (fun i ys σ H' hi ⟨_, e, S⟩ => ⟨?_, SqL.of (S _ _ hlb)⟩) ?_ ?_⟩
    · have := e.len
      rw [List.length_map, List.length_map, List.length_take] at this
      exact Nat.le_trans (show _ ≤ 1000 by omega) (by decide)
    · rintro ys σ H2 ⟨_, e, S2⟩ ls nls
      rw [lu, List.take_length] at e
      have hls : upd H2 ls (.lst ys) ls = some (.lst ys) := upd_same
      have S3 := same_new (o := .lst ys) nls
      have e3 := e.same S3
      generalize upd H2 ls (.lst ys) = H3 at hls S3 e3
      refine ⟨ls, ys, _, rfl, hls, e3, by rw [List.length_map]; exact h24, fun D ms H4 S4 nD up mem hD => ?_⟩
      refine run_gname ?_
      dsimp only
      have m48 : ms.length ≤ 48 := by
        have := sub_len up mem
        simp only [List.length_append, List.length_map] at this
        omega
      have eA : (fun e => !acrS (bs.map fun b => (b.l, b.r)) e) = fun e => !acr bs e := funext fun e => by
        have := acrS_eq id bs e
        rw [List.map_id] at this
        rw [this]
      rw [eA] at hD
      generalize hus : (ms.filter fun e => !acr bs e) = us at hD q
      have l48 : us.length ≤ 48 := by rw [← hus]; exact Nat.le_trans (List.length_filter_le _ _) m48
      have S14 : Same H H4 := S1.trans (S2.trans (S3.trans S4))
      refine ⟨_, rfl, _, rfl, _, rfl, D, _, rfl, SqL.of hD, fun l2 nl2 => ?_⟩
      have ec : cutV (us.map V.int) (some 1) none = (us.drop 1).map V.int := by
        cases us with
        | nil => rfl
        | cons a us =>
          have := cutV_drop ((a :: us).map V.int) 1 (by rw [List.length_map]; simp)
          rw [List.map_drop]
          exact this
      rw [ec]
      have S5 := same_new (o := .lst ((us.drop 1).map V.int)) nl2
      have hl2 : (upd H4 l2 (.lst ((us.drop 1).map V.int))) l2 = some (.lst ((us.drop 1).map V.int)) := upd_same
      have hD5 := S5 _ _ hD
      generalize upd H4 l2 (.lst ((us.drop 1).map V.int)) = H5 at S5 hl2 hD5
      obtain ⟨pu, rfl, hpu⟩ := hu.same (S14.trans S5)
      have lz : min (us.map V.int).length ((us.drop 1).map V.int).length = (us.zip (us.drop 1)).length := by
        rw [List.length_map, List.length_map, List.length_zip]
      refine ⟨D, l2, rfl, ⟨_, SqL.of hD5⟩, ⟨_, SqL.of hl2⟩, cmp_zip (K := K) (a := D) (b := l2) (xs := us.map V.int) (ys := (us.drop 1).map V.int) (fun i zs σ H6 => BoxesAt H6 zs (((us.zip (us.drop 1)).take i).map fun q => ⟨q.1, p.t, q.2, p.b⟩) ∧ Same H5 H6 ∧ ∃ o o2, σ = [o, o2, some (.ref pu)]) ⟨.nil, Same.refl _, none, none, rfl⟩
        (fun i zs σ H6 hi ⟨e, S, _⟩ => ⟨by rw [e.len, List.length_map, List.length_take, List.length_zip]; exact Nat.le_trans (show _ ≤ 1000 by omega) (by decide), SqL.of (S _ _ hD5), SqL.of (S _ _ hl2)⟩) ?_ ?_⟩
      · rintro zs σ H6 ⟨hY, S6, _⟩ lr nlr
        rw [lz, List.take_length] at hY
        have S16 := S14.trans (S5.trans S6)
        refine q lr zs ms _ (S16.trans (same_new nlr)) (no_old S16 nlr) up (fun z => (mem z).trans ?_) m48 upd_same ?_
        · rw [List.map_map, List.map_map]
          exact Iff.rfl
        · rw [hus, List.map_id]
          exact hY.same (same_new nlr)
      · rintro i x y zs σ H6 tpa hx hy ⟨hY, S6, o, o2, rfl⟩ ntp
        rw [List.getElem?_map] at hx hy
        obtain ⟨x1, hx1, rfl⟩ := Option.map_eq_some_iff.mp hx
        obtain ⟨y1, hy1, rfl⟩ := Option.map_eq_some_iff.mp hy
        have St := same_new (o := .tup [.int x1, .int y1]) ntp
        refine ⟨tpa, _, rfl, SqT.of upd_same, rfl, _, _, rfl, _, _, rfl, rfl, ?_⟩
        dsimp only [gName, tYes]
        refine iteT ?_
        generalize upd H6 tpa (.tup [.int x1, .int y1]) = H7 at St
        have hpu7 := box_four (St _ _ (S6 _ _ hpu)) K
        refine run_tup4 (v1 := .int x1) (v2 := .int p.t) (v3 := .int y1) (v4 := .int p.b) (evl_var rfl) (evl_ixT (evl_var rfl) evl_c hpu7 rfl) (evl_var rfl) (evl_ixT (evl_var rfl) evl_c hpu7 rfl) (fun tq ntq => ?_)
        have Sq := same_new (o := .tup [.int x1, .int p.t, .int y1, .int p.b]) ntq
        refine ⟨?_, S6.trans (St.trans Sq), _, _, rfl⟩
        have ez : (us.zip (us.drop 1))[i]? = some (x1, y1) := List.getElem?_zip_eq_some.mpr ⟨hx1, hy1⟩
        obtain ⟨hzl, evz⟩ := List.getElem?_eq_some_iff.mp ez
        rw [← List.take_append_getElem hzl, evz, List.map_append]
        exact Paired.snoc (hY.same (St.trans Sq)) ⟨tq, rfl, upd_same⟩
    · rintro i x ys σ H' hx ⟨⟨o, rfl⟩, e, S⟩
      have hi : i < bs.length := by rw [← lu]; exact (List.getElem?_eq_some_iff.mp hx).1
      have eb : bs[i]? = some bs[i] := List.getElem?_eq_getElem hi
      generalize bs[i] = b at eb
      obtain ⟨v, hv, p1, rfl, hb⟩ := hB.get eb
      rw [hx] at hv
      cases hv
      have t := box_four (S _ _ hb) K
      dsimp only [gName, tYes]
      refine iteT ?_
      refine (evl_ixT (v := .int b.l) (evl_var rfl) evl_c t rfl) _ ((evl_ixT (v := .int b.r) (evl_var rfl) evl_c t rfl) _ ⟨by show 2 ≤ sizeLine; decide, fun tq ntq => ?_⟩)
      have Sq := same_new (o := .tup [.int b.l, .int b.r]) ntq
      refine ⟨⟨_, rfl⟩, ?_, S.trans Sq⟩
      rw [List.take_add_one, eb, List.map_append, List.map_append]
      exact Paired.snoc (e.same Sq) ⟨tq, rfl, upd_same⟩
theorem scPdn : FnScope ["page", "piece", "places"] ["page", "piece"] (defScope sPdn) := ⟨rfl, rfl, rfl, by decide +kernel, rfl, by decide +kernel, by decide +kernel⟩
theorem ok_pdn {f fB fU : Addr} {fd dB dU : FuncData} (F : Fun K "parted_down" "parted_down" sPdn f fd) (gLEFT : GI mg "LEFT" 0) (gTOP : GI mg "TOP" 1) (gRIGHT : GI mg "RIGHT" 2) (gBELOW : GI mg "BELOW" 3) (tzip : mg "zip" = none)
    (Bi : Callee P w K mg base CX0 2 "boxes_in" fB dB ["page", "piece"] spBin) (Un : Callee P w K mg base CX0 2 "uncut_ends" fU dU ["spans"] spUnc) : FnOk P w K mg base CX0 3 f fd ["page", "piece"] (spPrt flp) := by
  refine F.ok scPdn (fun vs H Q E h => ?_) (fun cdv A outer s H vs Q E hr h => ?_)
  · obtain ⟨pg, u, W, G, cs, p, rfl, _⟩ := h
    rfl
  · obtain ⟨pg, u, W, G, cs, p, rfl, hPG, hu, q⟩ := h
    refine ⟨_, (pss_cons (ps_set (i := 2) scPdn.nd rfl (Or.inl rfl) (pe_call Un.ok hr rfl Un.bound Un.kp Un.bd .nil pass0 (pa_cons (pe_comp (Nc := ["box"]) (ix := [none]) rfl rfl (by refine' pi_list ?zz; case zz => exact (pe_call Bi.ok hr rfl Bi.bound Bi.kp Bi.bd .nil pass0 (pa_cons (pv 0) (pa_cons (pv 1) pa_nil)))) (fun _ _ _ _ _ => (pg_name (i := 0) (by show (["box"] : List Str).Nodup; decide +kernel) rfl (Or.inl rfl))) (fun _ _ _ _ _ => pts_nil) (fun _ _ _ _ _ => (pe_tup (pa_cons (pe_ix (ix_tupK (K := K) rfl) (pv 0) (pe_gi rfl gTOP) (fun _ _ => rfl)) (pa_cons (pe_ix (ix_tupK (K := K) rfl) (pv 0) (pe_gi rfl gBELOW) (fun _ _ => rfl)) pa_nil))))) pa_nil)))
      (pss_one (ps_ret (pe_comp (Nc := ["top", "below", "piece"]) (ix := [none, none, some 1]) rfl rfl (by exact (pi_zip rfl tzip (pa_cons (pv 2) (pa_cons (pe_slice sl_list (pv 2) (po_some pe_int) po_none) pa_nil)))) (fun _ _ _ _ _ => (pg_tupK (K := K) (n := 2) rfl rfl (pgs_cons (pg_name (i := 0) (by show (["top", "below", "piece"] : List Str).Nodup; decide +kernel) rfl (Or.inl rfl)) (pgs_cons (pg_name (i := 1) (by show (["top", "below", "piece"] : List Str).Nodup; decide +kernel) rfl (Or.inl rfl)) pgs_nil)))) (fun _ _ _ _ _ => pts_nil) (fun _ _ _ _ _ => (pe_tup (pa_cons (pe_ix (ix_tupK (K := K) rfl) (pv 2) (pe_gi rfl gLEFT) (fun _ _ => rfl)) (pa_cons (pv 0) (pa_cons (pe_ix (ix_tupK (K := K) rfl) (pv 2) (pe_gi rfl gRIGHT) (fun _ _ => rfl)) (pa_cons (pv 1) pa_nil)))))))))), ?_⟩
    have h24 : (cs.filter (wthn p)).length ≤ 24 := Nat.le_trans (List.length_filter_le _ _) (let ⟨_, _, _, _, _, h⟩ := hPG; h)
    refine ⟨_, rfl, _, rfl, pg, u, W, G, cs, p, rfl, hPG, hu, fun lb ub H1 S1 nlb hlb hB => ?_⟩
    generalize cs.filter (wthn p) = bs at h24 hB q
    have lu := hB.len
    refine ⟨lb, rfl, ⟨_, SqL.of hlb⟩, cmp_list (K := K) (a := lb) (xs := ub) (fun i ys σ H' => (∃ o, σ = [o]) ∧ IvsAt H' ys (((bs.take i).map fun b => (b.t, b.b)).map j2) ∧ Same H1 H')
      ⟨⟨none, rfl⟩, .nil, Same.refl _⟩ (fun i ys σ H' hi ⟨_, e, S⟩ => ⟨?_, SqL.of (S _ _ hlb)⟩) ?_ ?_⟩
    · have := e.len
      rw [List.length_map, List.length_map, List.length_take] at this
      exact Nat.le_trans (show _ ≤ 1000 by omega) (by decide)
    · rintro ys σ H2 ⟨_, e, S2⟩ ls nls
      rw [lu, List.take_length] at e
      have hls : upd H2 ls (.lst ys) ls = some (.lst ys) := upd_same
      have S3 := same_new (o := .lst ys) nls
      have e3 := e.same S3
      generalize upd H2 ls (.lst ys) = H3 at hls S3 e3
      refine ⟨ls, ys, _, rfl, hls, e3, by rw [List.length_map]; exact h24, fun D ms H4 S4 nD up mem hD => ?_⟩
      refine run_gname ?_
      dsimp only
      have m48 : ms.length ≤ 48 := by
        have := sub_len up mem
        simp only [List.length_append, List.length_map] at this
        omega
      have eA : (fun e => !acrS (bs.map fun b => (b.t, b.b)) e) = fun e => !acr (bs.map flp) e := funext fun e => by
        have := acrS_eq flp bs e
        rw [List.map_map] at this
        show (!acrS (bs.map ((fun b => (b.l, b.r)) ∘ flp)) e) = _
        rw [this]
      rw [eA] at hD
      generalize hus : (ms.filter fun e => !acr (bs.map flp) e) = us at hD q
      have l48 : us.length ≤ 48 := by rw [← hus]; exact Nat.le_trans (List.length_filter_le _ _) m48
      have S14 : Same H H4 := S1.trans (S2.trans (S3.trans S4))
      refine ⟨_, rfl, _, rfl, _, rfl, D, _, rfl, SqL.of hD, fun l2 nl2 => ?_⟩
      have ec : cutV (us.map V.int) (some 1) none = (us.drop 1).map V.int := by
        cases us with
        | nil => rfl
        | cons a us =>
          have := cutV_drop ((a :: us).map V.int) 1 (by rw [List.length_map]; simp)
          rw [List.map_drop]
          exact this
      rw [ec]
      have S5 := same_new (o := .lst ((us.drop 1).map V.int)) nl2
      have hl2 : (upd H4 l2 (.lst ((us.drop 1).map V.int))) l2 = some (.lst ((us.drop 1).map V.int)) := upd_same
      have hD5 := S5 _ _ hD
      generalize upd H4 l2 (.lst ((us.drop 1).map V.int)) = H5 at S5 hl2 hD5
      obtain ⟨pu, rfl, hpu⟩ := hu.same (S14.trans S5)
      have lz : min (us.map V.int).length ((us.drop 1).map V.int).length = (us.zip (us.drop 1)).length := by
        rw [List.length_map, List.length_map, List.length_zip]
      refine ⟨D, l2, rfl, ⟨_, SqL.of hD5⟩, ⟨_, SqL.of hl2⟩, cmp_zip (K := K) (a := D) (b := l2) (xs := us.map V.int) (ys := (us.drop 1).map V.int) (fun i zs σ H6 => BoxesAt H6 zs (((us.zip (us.drop 1)).take i).map fun q => ⟨p.l, q.1, p.r, q.2⟩) ∧ Same H5 H6 ∧ ∃ o o2, σ = [o, o2, some (.ref pu)]) ⟨.nil, Same.refl _, none, none, rfl⟩
        (fun i zs σ H6 hi ⟨e, S, _⟩ => ⟨by rw [e.len, List.length_map, List.length_take, List.length_zip]; exact Nat.le_trans (show _ ≤ 1000 by omega) (by decide), SqL.of (S _ _ hD5), SqL.of (S _ _ hl2)⟩) ?_ ?_⟩
      · rintro zs σ H6 ⟨hY, S6, _⟩ lr nlr
        rw [lz, List.take_length] at hY
        have S16 := S14.trans (S5.trans S6)
        refine q lr zs ms _ (S16.trans (same_new nlr)) (no_old S16 nlr) up (fun z => (mem z).trans ?_) m48 upd_same ?_
        · rw [List.map_map, List.map_map, List.map_map, List.map_map]
          exact Iff.rfl
        · rw [hus]
          unfold pcs
          rw [List.map_map]
          exact hY.same (same_new nlr)
      · rintro i x y zs σ H6 tpa hx hy ⟨hY, S6, o, o2, rfl⟩ ntp
        rw [List.getElem?_map] at hx hy
        obtain ⟨x1, hx1, rfl⟩ := Option.map_eq_some_iff.mp hx
        obtain ⟨y1, hy1, rfl⟩ := Option.map_eq_some_iff.mp hy
        have St := same_new (o := .tup [.int x1, .int y1]) ntp
        refine ⟨tpa, _, rfl, SqT.of upd_same, rfl, _, _, rfl, _, _, rfl, rfl, ?_⟩
        dsimp only [gName, tYes]
        refine iteT ?_
        generalize upd H6 tpa (.tup [.int x1, .int y1]) = H7 at St
        have hpu7 := box_four (St _ _ (S6 _ _ hpu)) K
        refine run_tup4 (v1 := .int p.l) (v2 := .int x1) (v3 := .int p.r) (v4 := .int y1) (evl_ixT (evl_var rfl) evl_c hpu7 rfl) (evl_var rfl) (evl_ixT (evl_var rfl) evl_c hpu7 rfl) (evl_var rfl) (fun tq ntq => ?_)
        have Sq := same_new (o := .tup [.int p.l, .int x1, .int p.r, .int y1]) ntq
        refine ⟨?_, S6.trans (St.trans Sq), _, _, rfl⟩
        have ez : (us.zip (us.drop 1))[i]? = some (x1, y1) := List.getElem?_zip_eq_some.mpr ⟨hx1, hy1⟩
        obtain ⟨hzl, evz⟩ := List.getElem?_eq_some_iff.mp ez
        rw [← List.take_append_getElem hzl, evz, List.map_append]
        exact Paired.snoc (hY.same (St.trans Sq)) ⟨tq, rfl, upd_same⟩
    · rintro i x ys σ H' hx ⟨⟨o, rfl⟩, e, S⟩
      have hi : i < bs.length := by rw [← lu]; exact (List.getElem?_eq_some_iff.mp hx).1
      have eb : bs[i]? = some bs[i] := List.getElem?_eq_getElem hi
      generalize bs[i] = b at eb
      obtain ⟨v, hv, p1, rfl, hb⟩ := hB.get eb
      rw [hx] at hv
      cases hv
      have t := box_four (S _ _ hb) K
      dsimp only [gName, tYes]
      refine iteT ?_
      refine (evl_ixT (v := .int b.t) (evl_var rfl) evl_c t rfl) _ ((evl_ixT (v := .int b.b) (evl_var rfl) evl_c t rfl) _ ⟨by show 2 ≤ sizeLine; decide, fun tq ntq => ?_⟩)
      have Sq := same_new (o := .tup [.int b.t, .int b.b]) ntq
      refine ⟨⟨_, rfl⟩, ?_, S.trans Sq⟩
      rw [List.take_add_one, eb, List.map_append, List.map_append]
      exact Paired.snoc (e.same Sq) ⟨tq, rfl, upd_same⟩
end
end JC
set_option linter.all false
namespace Til
theorem tiles_nodup {bs : List Bx} {n m : Int} (T : Tiles bs n m) : bs.Nodup := by
  have h := tiles_nolap T
  refine List.Pairwise.imp_of_mem (fun {a b} ha hb hl e => ?_) h
  subst e
  have o := T.wf a ha
  have : lap a a = true := by
    unfold lap
    simp only [Bool.and_eq_true, decide_eq_true_eq]
    exact ⟨⟨o.h1, o.h1⟩, o.v1, o.v1⟩
  rw [this] at hl
  cases hl
end Til
set_option Elab.async false
set_option linter.all false
namespace Til
theorem wthn_flp (p b : Bx) : wthn (flp p) (flp b) = wthn p b := by
  rw [Bool.eq_iff_iff, wthn_iff, wthn_iff]
  show p.t ≤ b.t ∧ b.b ≤ p.b ∧ p.l ≤ b.l ∧ b.r ≤ p.r ↔ _
  exact ⟨fun ⟨a, b, c, d⟩ => ⟨c, d, a, b⟩, fun ⟨a, b, c, d⟩ => ⟨c, d, a, b⟩⟩
theorem filt_flp (cs : List Bx) (p : Bx) : (cs.filter (wthn p)).map flp = (cs.map flp).filter (wthn (flp p)) := by
  rw [List.filter_map]
  congr 1
  refine List.filter_congr fun b _ => ?_
  exact (wthn_flp p b).symm
theorem Piece.flp {cs : List Bx} {p : Bx} (P : Piece cs p) : Piece (cs.map flp) (flp p) := by
  refine ⟨P.high, P.wide, fun x y h1 h2 h3 h4 => ?_⟩
  obtain ⟨b, hb, hw, hi⟩ := P.fill y x h3 h4 h1 h2
  exact ⟨Til.flp b, List.mem_map.mpr ⟨b, hb, rfl⟩, by rw [wthn_flp]; exact hw, by rw [inB_flp]; exact hi⟩
def HasCut (cs : List Bx) (p : Bx) : Prop := (∃ e, CutX cs p e) ∨ ∃ e, CutX (cs.map flp) (flp p) e
theorem two_iff {cs : List Bx} {W G : Int} {p : Bx} (T : Tiles cs W G) (P : Piece cs p) : 2 ≤ (cs.filter (wthn p)).length ↔ p ∉ cs := by
  have nd := (tiles_nodup T).filter (wthn p)
  obtain ⟨b0, hb0, hw0, _⟩ := ends_left P
  have m0 : b0 ∈ cs.filter (wthn p) := List.mem_filter.mpr ⟨hb0, hw0⟩
  rw [piece_one T P]
  constructor
  · intro h2 all
    match e : cs.filter (wthn p), h2 with
    | a :: b :: r, _ =>
      have ha := List.mem_filter.mp (show a ∈ cs.filter (wthn p) by rw [e]; exact List.mem_cons_self)
      have hb := List.mem_filter.mp (show b ∈ cs.filter (wthn p) by rw [e]; exact List.mem_cons_of_mem _ List.mem_cons_self)
      have := all a ha.1 b hb.1 ha.2 hb.2
      rw [e] at nd
      rw [show List.Pairwise (fun x1 x2 => x1 ≠ x2) (a :: b :: r) = (a :: b :: r).Nodup from rfl, List.nodup_cons] at nd
      exact nd.1 (by rw [this]; exact List.mem_cons_self)
  · intro no
    match e : cs.filter (wthn p) with
    | [] => rw [e] at m0; cases m0
    | [a] =>
      refine absurd (fun b hb c hc h1 h2 => ?_) no
      have i1 : b ∈ cs.filter (wthn p) := List.mem_filter.mpr ⟨hb, h1⟩
      have i2 : c ∈ cs.filter (wthn p) := List.mem_filter.mpr ⟨hc, h2⟩
      rw [e] at i1 i2
      rw [List.mem_singleton.mp i1, List.mem_singleton.mp i2]
    | a :: b :: r => simp
def IsS (cs : List Bx) (p : Bx) : Prop := Piece cs p ∧ p ∉ cs ∧ ¬ HasCut cs p
end Til
set_option Elab.async false
set_option linter.all false
set_option maxRecDepth 100000
namespace L2
open PySem PySem.Spec PyProof.Rows PySem.W
end L2
set_option Elab.async false
set_option linter.all false
set_option maxRecDepth 100000
namespace L2
open PySem PySem.Spec PyProof.Rows PySem.W
def GS (mg : Str → Option Value) (x : Str) (n : Str) : Prop := ∃ t, mg x = some (.str n t)
theorem pe_gs {X : Cx} {x : Str} {n : Str} {pos : Pos} (hg : Gl X x) (h : GS X.mg x n) (hd : (x == ("__debug__" : Str)) = false := by decide) : PE X (.Name x pos) (tC (.str n)) := by
  obtain ⟨t, h⟩ := h
  exact pe_glob hg h ⟨t, rfl⟩ hd
section
variable {X : Cx}
def rInT (K : PySem.W.Frag) (neg : Bool) : R2 := fun x y H Q => ∃ (p : Addr) (bs : List Addr) (e : Addr → Bool) (n : Nat), y = .ref p ∧ SqT K H p (bs.map V.ref) ∧ n ≤ 16 ∧ (∀ b ∈ bs, EqR K H n (.ref b) x (e b)) ∧ Q (.bl (if neg then !bs.any e else bs.any e)) H
theorem op_inT {K : PySem.W.Frag} (hK : X.K = K) (hu : X.A.units + 64 < cLine) : OpR X (compareOp .In) (rInT K false) := by
  subst hK
  intro pins s σ H x y v u Q I rx ry h
  obtain ⟨p, bs, e, n, rfl, hq, hn, he, q⟩ := h
  cases ry
  obtain ⟨its, r, pl, hz⟩ := I.tuple hq
  have ei := vals_refs r
  subst ei
  refine SeqAt.in_tupleAt (fun y => match y with | .ref b => e b | _ => false) pl (fun z hy => ?_) ⟨.bl _, H, I, rfl, ?_⟩
  · obtain ⟨b, hb, rfl⟩ := List.mem_map.mp (show z ∈ bs.map Value.ref by simpa using hy)
    exact (he b hb).at I (A := X.A.in1) (u := .ref b) (v := v) rfl rx (by show X.A.units + 1 + n < cLine; omega)
  · have e1 : (bs.map Value.ref).toArray.any (fun y => match y with | .ref b => e b | _ => false) = bs.any e := by
      simp [List.any_map]
      rfl
    rw [e1]
    exact q
theorem op_notInT {K : PySem.W.Frag} (hK : X.K = K) (hu : X.A.units + 64 < cLine) : OpR X (compareOp .NotIn) (rInT K true) := by
  subst hK
  intro pins s σ H x y v u Q I rx ry h
  obtain ⟨p, bs, e, n, rfl, hq, hn, he, q⟩ := h
  cases ry
  obtain ⟨its, r, pl, hz⟩ := I.tuple hq
  have ei := vals_refs r
  subst ei
  refine SeqAt.notIn_tupleAt (fun y => match y with | .ref b => e b | _ => false) pl (fun z hy => ?_) ⟨.bl _, H, I, rfl, ?_⟩
  · obtain ⟨b, hb, rfl⟩ := List.mem_map.mp (show z ∈ bs.map Value.ref by simpa using hy)
    exact (he b hb).at I (A := X.A.in1) (u := .ref b) (v := v) rfl rx (by show X.A.units + 1 + n < cLine; omega)
  · have e1 : (bs.map Value.ref).toArray.any (fun y => match y with | .ref b => e b | _ => false) = bs.any e := by
      simp [List.any_map]
      rfl
    rw [e1]
    exact q
end
end L2
set_option Elab.async false
set_option linter.all false
set_option maxRecDepth 100000
set_option maxHeartbeats 1000000
namespace L2
open PySem
theorem pe_tyn {X : Cx} {x : Str} {T : String} {pos : Pos} (hg : Gl X x) (hm : X.mg x = none) (hv : bootBuiltins x = some (.type T)) (hn : x ≠ "__name__" := by decide) (hd : (x == ("__debug__" : Str)) = false := by decide) : PE X (.Name x pos) (tC (.ty T)) := pe_bltn hg hm hv rfl hn hd
end L2
namespace JC
open PySem L2 Til PySem.W
def Ends (fl : Bx → Bx) (cs : List Bx) (p : Bx) (ms : List Int) : Prop := ms.Pairwise (· < ·) ∧ (∀ z, z ∈ ms ↔ z ∈ ((cs.filter (wthn p)).map fl).map (·.l) ++ ((cs.filter (wthn p)).map fl).map (·.r)) ∧ ms.length ≤ 48
def unc (fl : Bx → Bx) (cs : List Bx) (p : Bx) (ms : List Int) : List Int := ms.filter fun e => !acr ((cs.filter (wthn p)).map fl) e
def PartedAs (cs : List Bx) (p : Bx) (k : Str) (ps : List Bx) : Prop := ∃ ms, Ends id cs p ms ∧
  ((k = "|" ∧ ps = pcs p (unc id cs p ms) ∧ 1 < ps.length) ∨ (k = "-" ∧ (pcs p (unc id cs p ms)).length ≤ 1 ∧ ∃ ns, Ends flp cs p ns ∧ ps = (pcs (flp p) (unc flp cs p ns)).map flp))
theorem pcs_len (p : Bx) (us : List Int) : (pcs p us).length = us.length - 1 := by
  unfold pcs
  rw [List.length_map, List.length_zip, List.length_drop]
  omega
theorem unc_id {cs : List Bx} {p : Bx} {ms : List Int} {W G : Int} (T : Tiles cs W G) (P : Piece cs p) (E : Ends id cs p ms) : 1 < (pcs p (unc id cs p ms)).length ↔ ∃ e, CutX cs p e := by
  obtain ⟨up, mem, _⟩ := E
  unfold unc
  rw [List.map_id] at mem ⊢
  rw [← uncut_cut P (fun b hb => (T.wf b hb).h1) up mem, pcs_len]
  omega
theorem unc_flp {cs : List Bx} {p : Bx} {ms : List Int} {W G : Int} (T : Tiles cs W G) (P : Piece cs p) (E : Ends flp cs p ms) : 1 < (pcs (flp p) (unc flp cs p ms)).length ↔ ∃ e, CutX (cs.map flp) (flp p) e := by
  obtain ⟨up, mem, _⟩ := E
  unfold unc
  rw [filt_flp] at mem ⊢
  rw [← uncut_cut P.flp (fun b hb => ((tiles_flp T).wf b hb).h1) up mem, pcs_len]
  omega
theorem parted_cut {cs : List Bx} {p : Bx} {k : Str} {ps : List Bx} {W G : Int} (T : Tiles cs W G) (P : Piece cs p) (h : PartedAs cs p k ps) : 1 < ps.length ↔ HasCut cs p := by
  obtain ⟨ms, E, h⟩ := h
  rcases h with ⟨_, rfl, l1⟩ | ⟨_, l1, ns, E2, rfl⟩
  · exact ⟨fun _ => .inl ((unc_id T P E).mp l1), fun _ => l1⟩
  · rw [List.length_map, unc_flp T P E2]
    refine ⟨.inr, fun z => z.elim (fun z => ?_) id⟩
    have := (unc_id T P E).mpr z
    omega
theorem PartedAs.len {cs : List Bx} {p : Bx} {k : Str} {ps : List Bx} (h : PartedAs cs p k ps) : ps.length ≤ 48 := by
  obtain ⟨ms, E, h⟩ := h
  rcases h with ⟨_, rfl, l1⟩ | ⟨_, l1, ns, E2, rfl⟩
  · rw [pcs_len]
    have := List.length_filter_le (fun e => !acr ((cs.filter (wthn p)).map id) e) ms
    have := E.2.2
    unfold unc
    omega
  · rw [List.length_map, pcs_len]
    have := List.length_filter_le (fun e => !acr ((cs.filter (wthn p)).map flp) e) ns
    have := E2.2.2
    unfold unc
    omega
def spPar : Sp := fun vs H Q _ => ∃ (pg : Addr) (u : V) (W G : Int) (cs : List Bx) (p : Bx), vs = [.ref pg, u] ∧ PageAt H pg W G cs ∧ BoxAt H u p ∧
  ∀ (tp l : Addr) (k : Str) (vl : List V) (ps : List Bx) (H' : Hp), Same H H' → H' tp = some (.tup [.str k, .ref l]) → H' l = some (.lst vl) → BoxesAt H' vl ps → PartedAs cs p k ps → Q (.ref tp) H'
def spHasC : Sp := fun vs H Q _ => ∃ (pg : Addr) (u : V) (W G : Int) (cs : List Bx) (p : Bx), vs = [.ref pg, u] ∧ PageAt H pg W G cs ∧ BoxAt H u p ∧ Tiles cs W G ∧ Piece cs p ∧
  ∀ (c : Bool) (H' : Hp), Same H H' → (c = true ↔ HasCut cs p) → Q (.bl c) H'
def boxB (b : Bx) : Bool := decide (b.l < b.r) && decide (b.t < b.b)
def spWhole : Sp := fun vs H Q _ => ∃ i : Int, vs = [.int i] ∧ Q (.bl true) H
def spBox : Sp := fun vs H Q _ => ∃ (v : V) (b : Bx), vs = [v] ∧ BoxAt H v b ∧ ∀ H', Same H H' → Q (.bl (boxB b)) H'
def small1 (i : Int) : Prop := -(2 ^ 64) < i ∧ i < 2 ^ 64
def spArea : Sp := fun vs H Q _ => ∃ (v : V) (b : Bx), vs = [v] ∧ BoxAt H v b ∧ (small1 (b.r - b.l) ∨ small1 (b.b - b.t)) ∧ Q (.int (area b)) H
def spIsP : Sp := fun vs H Q _ => ∃ (pg : Addr) (u : V) (W G : Int) (cs : List Bx) (p : Bx), vs = [.ref pg, u] ∧ PageAt H pg W G cs ∧ BoxAt H u p ∧ Tiles cs W G ∧ W ≤ 100000 ∧ (small1 (p.r - p.l) ∨ small1 (p.b - p.t)) ∧
  ∀ (c : Bool) (H' : Hp), Same H H' → (c = true ↔ Piece cs p) → Q (.bl c) H'
def spIsS : Sp := fun vs H Q _ => ∃ (pg : Addr) (u : V) (W G : Int) (cs : List Bx) (p : Bx), vs = [.ref pg, u] ∧ PageAt H pg W G cs ∧ BoxAt H u p ∧ Tiles cs W G ∧ W ≤ 100000 ∧ (small1 (p.r - p.l) ∨ small1 (p.b - p.t)) ∧
  ∀ (c : Bool) (H' : Hp), Same H H' → (c = true ↔ IsS cs p) → Q (.bl c) H'
theorem eqD {K : PySem.W.Frag} {H : Hp} (n : Nat) (i j : Int) : EqR K H n (.int i) (.int j) (decide (i = j)) := by
  have := EqR.flat (K := K) (H := H) (n := n) (x := .int i) (y := .int j) rfl rfl
  have e : eqV (.int i) (.int j) = decide (i = j) := by show (i == j) = _; rw [Bool.eq_iff_iff, beq_iff_eq, decide_eq_true_eq]
  rw [e] at this
  exact this
theorem eq_bx {K : PySem.W.Frag} {H : Hp} {a p : Addr} {b c : Bx} (ha : H a = some (.tup (bxV b))) (hp : H p = some (.tup (bxV c))) : EqR K H 1 (.ref a) (.ref p) (decide (b = c)) := by
  have := EqR.tups (K := K) (n := 0) (e := fun j => match j with | 0 => decide (b.l = c.l) | 1 => decide (b.t = c.t) | 2 => decide (b.r = c.r) | _ => decide (b.b = c.b)) (box_four ha K) (box_four hp K) (fun j h1 h2 => by
    match j, h1 with
    | 0, _ => exact eqD 0 _ _
    | 1, _ => exact eqD 0 _ _
    | 2, _ => exact eqD 0 _ _
    | 3, _ => exact eqD 0 _ _)
  have e : decide (b = c) = (decide (b.l = c.l) && (decide (b.t = c.t) && (decide (b.r = c.r) && (decide (b.b = c.b) && true))) && true) := by
    cases b
    cases c
    simp [Bool.eq_iff_iff, and_assoc]
  rw [e]
  exact this
theorem boxes_refs {H : Hp} : ∀ {us : List V} {bs : List Bx}, BoxesAt H us bs → ∃ as : List Addr, us = as.map V.ref ∧ as.length = bs.length ∧ ∀ (i : Nat) (a : Addr) (b : Til.Bx), as[i]? = some a → bs[i]? = some b → H a = some (.tup (bxV b))
  | _, _, .nil => ⟨[], rfl, rfl, fun i a b h => by simp at h⟩
  | _, _, .cons (a := _) (b := b) ⟨p, e, hp⟩ t => by
    obtain ⟨as, rfl, l, h⟩ := boxes_refs t
    refine ⟨p :: as, by rw [e]; rfl, by rw [List.length_cons, List.length_cons, l], fun i a b' h1 h2 => ?_⟩
    cases i with
    | zero =>
      rw [List.getElem?_cons_zero] at h1 h2
      cases h1
      cases h2
      exact hp
    | succ i =>
      rw [List.getElem?_cons_succ] at h1 h2
      exact h i a b' h1 h2
theorem in_boxes {K : PySem.W.Frag} {H : Hp} {us : List V} {cs : List Bx} {a : Addr} {p : Bx} (hB : BoxesAt H us cs) (ha : H a = some (.tup (bxV p))) : ∃ (as : List Addr) (e : Addr → Bool), us = as.map V.ref ∧ (∀ b ∈ as, EqR K H 1 (.ref b) (.ref a) (e b)) ∧ (as.any e = decide (p ∈ cs)) := by
  classical
  obtain ⟨as, rfl, l, h⟩ := boxes_refs hB
  have at_ : ∀ b ∈ as, ∃ c ∈ cs, H b = some (.tup (bxV c)) := fun b hb => by
    obtain ⟨i, hi, e⟩ := List.mem_iff_getElem.mp hb
    exact ⟨cs[i]'(by omega), List.getElem_mem _, h i b _ (by rw [List.getElem?_eq_getElem hi, e]) (List.getElem?_eq_getElem (by omega))⟩
  refine ⟨as, fun b => decide (H b = some (.tup (bxV p))), rfl, fun b hb => ?_, ?_⟩
  · obtain ⟨c, _, hc⟩ := at_ b hb
    have z := eq_bx (K := K) hc ha
    have e : decide (c = p) = decide (H b = some (.tup (bxV p))) := by
      rw [Bool.eq_iff_iff, decide_eq_true_eq, decide_eq_true_eq, hc]
      constructor
      · rintro rfl; rfl
      · intro z
        injection z with z
        injection z with z
        unfold bxV at z
        simp only [List.cons.injEq, V.int.injEq, and_true] at z
        obtain ⟨z1, z2, z3, z4⟩ := z
        cases c
        cases p
        simp only [Bx.mk.injEq]
        exact ⟨z1, z2, z3, z4⟩
    show EqR K H 1 (.ref b) (.ref a) (decide (H b = some (.tup (bxV p))))
    rw [← e]
    exact z
  · rw [Bool.eq_iff_iff, List.any_eq_true, decide_eq_true_eq]
    constructor
    · rintro ⟨b, hb, e⟩
      obtain ⟨c, hc, e2⟩ := at_ b hb
      rw [decide_eq_true_eq, e2] at e
      injection e with e
      injection e with e
      unfold bxV at e
      simp only [List.cons.injEq, V.int.injEq, and_true] at e
      obtain ⟨z1, z2, z3, z4⟩ := e
      have : c = p := by
        cases c
        cases p
        simp only [Bx.mk.injEq]
        exact ⟨z1, z2, z3, z4⟩
      rw [← this]
      exact hc
    · intro hp
      obtain ⟨i, hi, e⟩ := List.mem_iff_getElem.mp hp
      refine ⟨as[i]'(by omega), List.getElem_mem _, ?_⟩
      rw [decide_eq_true_eq]
      exact h i _ _ (List.getElem?_eq_getElem (by omega)) (by rw [List.getElem?_eq_getElem hi, e])
section
variable {P : Program} {w : World} {K : PySem.W.Frag} {mg : Str → Option Value} {base : Heap}
theorem scPar : FnScope ["page", "piece", "across"] ["page", "piece"] (defScope sPar) := ⟨rfl, rfl, rfl, by decide +kernel, rfl, by decide +kernel, by decide +kernel⟩
theorem ok_par {f fA fD : Addr} {fd dA dD : FuncData} (F : Fun K "parted" "parted" sPar f fd) (gACROSS : GS mg "ACROSS" "|") (gDOWN : GS mg "DOWN" "-") (tl : mg "len" = none)
    (Ac : Callee P w K mg base CX0 3 "parted_across" fA dA ["page", "piece"] (spPrt id)) (Dn : Callee P w K mg base CX0 3 "parted_down" fD dD ["page", "piece"] (spPrt flp)) : FnOk P w K mg base CX0 4 f fd ["page", "piece"] spPar := by
  refine F.ok scPar (fun vs H Q E h => ?_) (fun cdv A outer s H vs Q E hr h => ?_)
  · obtain ⟨pg, u, W, G, cs, p, rfl, _⟩ := h
    rfl
  · obtain ⟨pg, u, W, G, cs, p, rfl, hPG, hu, q⟩ := h
    refine ⟨_, (pss_cons (ps_set (i := 2) scPar.nd rfl (Or.inl rfl) (pe_call Ac.ok hr rfl Ac.bound Ac.kp Ac.bd .nil pass0 (pa_cons (pv 0) (pa_cons (pv 1) pa_nil))))
      (pss_cons (ps_if (pt_cmpR op_gt (pe_callB call_len_seq (by rfl) tl PySem.boot_len (pa_cons (pv 2) pa_nil)) pe_int (nomark _))
      (pss_one (ps_ret (pe_tup (pa_cons (pe_gs rfl gACROSS) (pa_cons (pv 2) pa_nil)))))
      pss_nil)
      (pss_one (ps_ret (pe_tup (pa_cons (pe_gs rfl gDOWN) (pa_cons (pe_call Dn.ok hr rfl Dn.bound Dn.kp Dn.bd .nil pass0 (pa_cons (pv 0) (pa_cons (pv 1) pa_nil))) pa_nil))))))), ?_⟩
    refine ⟨_, rfl, _, rfl, pg, u, W, G, cs, p, rfl, hPG, hu, fun l vl ms H1 S1 nl up mem m48 hl hB => ?_⟩
    have EN : Ends id cs p ms := ⟨up, mem, m48⟩
    have eP : (pcs (id p) (ms.filter fun e => !acr ((cs.filter (wthn p)).map id) e)).map id = pcs p (unc id cs p ms) := by rw [List.map_id]; rfl
    rw [eP] at hB
    have lu := hB.len
    refine run_gname ?_
    dsimp only
    refine ⟨_, rfl, _, _, rfl, .inl (SqL.of hl), _, _, rfl, rfl, _, rfl, ?_⟩
    refine ite2 (fun c1 => ?_) (fun c1 => ?_)
    · have c1 := of_decide_eq_true c1
      refine ⟨_, rfl, by show 2 ≤ sizeLine; decide, fun tp ntp => ?_⟩
      have S2 := same_new (o := .tup [.str "|", .ref l]) ntp
      exact q tp l "|" vl _ _ (S1.trans S2) upd_same (S2 _ _ hl) (hB.same S2) ⟨ms, EN, .inl ⟨rfl, rfl, by omega⟩⟩
    · have c1 : ¬ (((vl.length : Nat) : Int) > 1) := fun z => c1 (decide_eq_true z)
      refine run_next ?_
      dsimp only
      refine ⟨_, rfl, _, rfl, pg, u, W, G, cs, p, rfl, hPG.same S1, hu.same S1, fun l2 vl2 ns H2 S2 nl2 up2 mem2 m482 hl2 hB2 => ⟨by show 2 ≤ sizeLine; decide, fun tp ntp => ?_⟩⟩
      have S3 := same_new (o := .tup [.str "-", .ref l2]) ntp
      exact q tp l2 "-" vl2 _ _ ((S1.trans S2).trans S3) upd_same (S3 _ _ hl2) (hB2.same S3) ⟨ms, EN, .inr ⟨rfl, by omega, ns, ⟨up2, mem2, m482⟩, rfl⟩⟩
theorem scHasC : FnScope ["page", "piece"] ["page", "piece"] (defScope sHasC) := ⟨rfl, rfl, rfl, by decide +kernel, rfl, by decide +kernel, by decide +kernel⟩
theorem ok_hasC {f fA : Addr} {fd dA : FuncData} (F : Fun K "has_cut" "has_cut" sHasC f fd) (gPARTS : GI mg "PARTS" 1) (tl : mg "len" = none) (Pa : Callee P w K mg base CX0 4 "parted" fA dA ["page", "piece"] spPar) : FnOk P w K mg base CX0 5 f fd ["page", "piece"] spHasC := by
  refine F.ok scHasC (fun vs H Q E h => ?_) (fun cdv A outer s H vs Q E hr h => ?_)
  · obtain ⟨pg, u, W, G, cs, p, rfl, _⟩ := h
    rfl
  · obtain ⟨pg, u, W, G, cs, p, rfl, hPG, hu, T, PC, q⟩ := h
    refine ⟨_, (pss_one (ps_ret (pe_cmpR op_gt (pe_callB call_len_seq (by rfl) tl PySem.boot_len (pa_cons (pe_ix ix_tup (pe_call Pa.ok hr rfl Pa.bound Pa.kp Pa.bd .nil pass0 (pa_cons (pv 0) (pa_cons (pv 1) pa_nil))) (pe_gi rfl gPARTS) (fun _ _ => rfl)) pa_nil)) pe_int (nomark _)))), ?_⟩
    refine ⟨_, rfl, _, rfl, pg, u, W, G, cs, p, rfl, hPG, hu, fun tp l k vl ps H1 S1 htp hl hB hP => ?_⟩
    have lu := hB.len
    refine ⟨_, _, _, _, rfl, rfl, SqT.of htp, rfl, _, _, rfl, .inl (SqL.of hl), _, _, rfl, rfl, q _ H1 S1 ?_⟩
    rw [← parted_cut T PC hP, decide_eq_true_eq, lu]
    omega
theorem scWhole : FnScope ["thing"] ["thing"] (defScope sWhole) := ⟨rfl, rfl, rfl, by decide +kernel, rfl, by decide +kernel, by decide +kernel⟩
theorem ok_whole {f : Addr} {fd : FuncData} (F : Fun K "is_whole" "is_whole" sWhole f fd) (ti : mg "isinstance" = none) (tint : mg "int" = none) (tbool : mg "bool" = none) (ib : kitOne K (.type "int") (.type "bool") = some false) : FnOk P w K mg base CX0 1 f fd ["thing"] spWhole := by
  refine F.ok scWhole (fun vs H Q E h => ?_) (fun cdv A outer s H vs Q E hr h => ?_)
  · obtain ⟨i, rfl, _⟩ := h
    rfl
  · obtain ⟨i, rfl, q⟩ := h
    refine ⟨_, (pss_one (ps_ret (pe_and (pe_callB call_isi (by rfl) ti PyProof.Rows.boot_isinstance (pa_cons (pv 0) (pa_cons (pe_tyn rfl tint PyProof.Rows.boot_int) pa_nil))) (pe_one (pe_not (pe_callB call_isi (by rfl) ti PyProof.Rows.boot_isinstance (pa_cons (pv 0) (pa_cons (pe_tyn rfl tbool PyProof.Rows.boot_bool) pa_nil)))))))), ?_⟩
    refine ⟨_, rfl, _, _, _, _, rfl, rfl, .of (.int _), rfl, _, rfl, iteT ?_⟩
    exact ⟨_, rfl, _, _, _, _, rfl, rfl, .of (.int _), ib, _, rfl, q⟩
theorem scBox : FnScope ["thing"] ["thing"] (defScope sBox) := ⟨rfl, rfl, rfl, by decide +kernel, rfl, by decide +kernel, by decide +kernel⟩
theorem ok_box {f fW : Addr} {fd fdW : FuncData} (F : Fun K "is_box" "is_box" sBox f fd) (gLEFT : GI mg "LEFT" 0) (gTOP : GI mg "TOP" 1) (gRIGHT : GI mg "RIGHT" 2) (gBELOW : GI mg "BELOW" 3) (ti : mg "isinstance" = none) (ttup : mg "tuple" = none) (tl : mg "len" = none) (tall : mg "all" = none) (Wo : Callee P w K mg base CX0 1 "is_whole" fW fdW ["thing"] spWhole) : FnOk P w K mg base CX0 2 f fd ["thing"] spBox := by
  refine F.ok scBox (fun vs H Q E h => ?_) (fun cdv A outer s H vs Q E hr h => ?_)
  · obtain ⟨v, b, rfl, _⟩ := h
    rfl
  · obtain ⟨v, b, rfl, ⟨p, rfl, hp⟩, q⟩ := h
    refine ⟨_, (pss_cons (ps_if (PW.pt (pw_or (pt_not (pt_val (pe_callB call_isi (by rfl) ti PyProof.Rows.boot_isinstance (pa_cons (pv 0) (pa_cons (pe_tyn rfl ttup PyProof.Rows.boot_tuple) pa_nil))))) (pw_or1 (pt_cmpR op_ne (pe_callB call_len_seq (by rfl) tl PySem.boot_len (pa_cons (pv 0) pa_nil)) pe_int (nomark _)))))
      (pss_one (ps_ret pe_bl))
      pss_nil)
      (pss_cons (ps_if (pt_not (pt_val (pe_callB (call_allL rfl) (by rfl) tall PyProof.Rows.boot_all (pa_cons (pe_comp (Nc := ["part"]) (ix := [none]) rfl rfl (by exact (pi_tup (pv 0))) (fun _ _ _ _ _ => (pg_name (i := 0) (by show (["part"] : List Str).Nodup; decide +kernel) rfl (Or.inl rfl))) (fun _ _ _ _ _ => pts_nil) (fun _ _ _ _ _ => (pe_call Wo.ok hr rfl Wo.bound Wo.kp Wo.bd .nil pass0 (pa_cons (pv 0) pa_nil)))) pa_nil))))
      (pss_one (ps_ret pe_bl))
      pss_nil)
      (pss_one (ps_ret (pe_and (pe_cmpR op_lt (pe_ix ix_tup (pv 0) (pe_gi rfl gLEFT) (fun _ _ => rfl)) (pe_ix ix_tup (pv 0) (pe_gi rfl gRIGHT) (fun _ _ => rfl)) (nomark _)) (pe_one (pe_cmpR op_lt (pe_ix ix_tup (pv 0) (pe_gi rfl gTOP) (fun _ _ => rfl)) (pe_ix ix_tup (pv 0) (pe_gi rfl gBELOW) (fun _ _ => rfl)) (nomark _)))))))), ?_⟩
    have t := box_four hp K
    refine ⟨_, rfl, _, _, _, _, rfl, rfl, .of (.tup hp), rfl, _, rfl, iteF ?_⟩
    refine ⟨_, rfl, _, _, rfl, .inr t, rfl, _, rfl, iteF ?_⟩
    refine ⟨_, rfl, p, rfl, ⟨_, t⟩, cmp_tup (K := K) (a := p) (xs := [.int b.l, .int b.t, .int b.r, .int b.b]) (fun i ys σ H' => ys = List.replicate i (V.bl true) ∧ Same H H' ∧ ∃ o, σ = [o])
      ⟨rfl, Same.refl _, none, rfl⟩ (fun i ys σ H' hi ⟨e, S, _⟩ => ⟨by rw [e, List.length_replicate]; exact Nat.le_trans hi (by show 4 ≤ sizeLine; decide), box_four (S _ _ hp) K⟩) ?_ ?_⟩
    · rintro ys σ H' ⟨e, S, _⟩ l nl
      subst e
      refine ⟨l, List.replicate 4 true, rfl, SqL.of (by rw [upd_same]; rfl), _, rfl, iteF ?_⟩
      have S2 := S.trans (same_new (o := .lst (List.replicate [V.int b.l, .int b.t, .int b.r, .int b.b].length (V.bl true))) nl)
      have t2 := box_four (S2 _ _ hp) K
      have ev := q _ S2
      refine run_next ?_
      dsimp only
      refine run_ret (v := .bl (boxB b)) ?_ ev
      unfold boxB
      refine evl_andV ?_ ?_ <;> exact evl_I0 (evl_ixT (evl_var rfl) evl_c t2 rfl) (evl_ixT (evl_var rfl) evl_c t2 rfl)
    · rintro i x ys σ H' hx ⟨e, S, o, rfl⟩
      subst e
      obtain ⟨n, rfl⟩ : ∃ n, x = V.int n := by
        match i, hx with
        | 0, hx => exact ⟨_, (Option.some.inj hx).symm⟩
        | 1, hx => exact ⟨_, (Option.some.inj hx).symm⟩
        | 2, hx => exact ⟨_, (Option.some.inj hx).symm⟩
        | 3, hx => exact ⟨_, (Option.some.inj hx).symm⟩
        | i + 4, hx => cases hx
      dsimp only [gName, tYes]
      refine iteT ?_
      exact ⟨_, rfl, n, rfl, by rw [List.replicate_succ'], S, _, rfl⟩
theorem scArea : FnScope ["box"] ["box"] (defScope sArea) := ⟨rfl, rfl, rfl, by decide +kernel, rfl, by decide +kernel, by decide +kernel⟩
theorem ok_area {f : Addr} {fd : FuncData} (F : Fun K "area" "area" sArea f fd) (gLEFT : GI mg "LEFT" 0) (gTOP : GI mg "TOP" 1) (gRIGHT : GI mg "RIGHT" 2) (gBELOW : GI mg "BELOW" 3) : FnOk P w K mg base CX0 1 f fd ["box"] spArea := by
  refine F.ok scArea (fun vs H Q E h => ?_) (fun cdv A outer s H vs Q E hr h => ?_)
  · obtain ⟨v, b, rfl, _⟩ := h
    rfl
  · obtain ⟨v, b, rfl, ⟨p, rfl, hp⟩, bd, q⟩ := h
    refine ⟨_, (pss_one (ps_ret (pe_op op_mul (pe_op op_sub (pe_ix ix_tup (pv 0) (pe_gi rfl gRIGHT) (fun _ _ => rfl)) (pe_ix ix_tup (pv 0) (pe_gi rfl gLEFT) (fun _ _ => rfl))) (pe_op op_sub (pe_ix ix_tup (pv 0) (pe_gi rfl gBELOW) (fun _ _ => rfl)) (pe_ix ix_tup (pv 0) (pe_gi rfl gTOP) (fun _ _ => rfl)))))), ?_⟩
    have t := box_four hp K
    refine run_ret (v := .int (area b)) ?_ q
    unfold area
    refine evl_I ?_ ?_ bd
    · exact evl_I0 (evl_ixT (evl_var rfl) evl_c t rfl) (evl_ixT (evl_var rfl) evl_c t rfl)
    · exact evl_I0 (evl_ixT (evl_var rfl) evl_c t rfl) (evl_ixT (evl_var rfl) evl_c t rfl)
theorem scIsP : FnScope ["page", "thing"] ["page", "thing"] (defScope sIsP) := ⟨rfl, rfl, rfl, by decide +kernel, rfl, by decide +kernel, by decide +kernel⟩
theorem ok_isP {f fB fI fA : Addr} {fd dB dI dA : FuncData} (F : Fun K "is_piece" "is_piece" sIsP f fd) (tsum : mg "sum" = none) (Bo : Callee P w K mg base CX0 2 "is_box" fB dB ["thing"] spBox) (Bi : Callee P w K mg base CX0 2 "boxes_in" fI dI ["page", "piece"] spBin) (Ar : Callee P w K mg base CX0 1 "area" fA dA ["box"] spArea) : FnOk P w K mg base CX0 3 f fd ["page", "thing"] spIsP := by
  refine F.ok scIsP (fun vs H Q E h => ?_) (fun cdv A outer s H vs Q E hr h => ?_)
  · obtain ⟨pg, u, W, G, cs, p, rfl, _⟩ := h
    rfl
  · obtain ⟨pg, u, W, G, cs, p, rfl, hPG, hu, T, hW, hs, q⟩ := h
    refine ⟨_, (pss_cons (ps_if (pt_not (pt_val (pe_call Bo.ok hr rfl Bo.bound Bo.kp Bo.bd .nil pass0 (pa_cons (pv 1) pa_nil))))
      (pss_one (ps_ret pe_bl))
      pss_nil)
      (pss_one (ps_ret (pe_cmpR op_eq (pe_callB (call_sumG rfl) (by rfl) tsum PyProof.Rows.boot_sum (pa_cons (pe_comp (Nc := ["box"]) (ix := [none]) rfl rfl (by refine' pi_list ?zz; case zz => exact (pe_call Bi.ok hr rfl Bi.bound Bi.kp Bi.bd .nil pass0 (pa_cons (pv 0) (pa_cons (pv 1) pa_nil)))) (fun _ _ _ _ _ => (pg_name (i := 0) (by show (["box"] : List Str).Nodup; decide +kernel) rfl (Or.inl rfl))) (fun _ _ _ _ _ => pts_nil) (fun _ _ _ _ _ => (pe_call Ar.ok (hr.mono (by decide)) rfl Ar.bound Ar.kp Ar.bd .nil pass0 (pa_cons (pv 0) pa_nil)))) pa_nil)) (pe_call Ar.ok (hr.mono (by decide)) rfl Ar.bound Ar.kp Ar.bd .nil pass0 (pa_cons (pv 1) pa_nil)) (nomark _))))), ?_⟩
    refine ⟨_, rfl, u, p, rfl, hu, fun H1 S1 => ?_⟩
    have h24 : cs.length ≤ 24 := (let ⟨_, _, _, _, _, h⟩ := hPG; h)
    cases hb : boxB p with
    | false =>
      refine ⟨_, rfl, iteT (q false H1 S1 ⟨fun z => (nomatch z), fun PC => ?_⟩)⟩
      unfold boxB at hb
      rw [decide_eq_true PC.wide, decide_eq_true PC.high] at hb
      cases hb
    | true =>
      have hb2 : p.l < p.r ∧ p.t < p.b := by
        unfold boxB at hb
        rw [Bool.and_eq_true, decide_eq_true_eq, decide_eq_true_eq] at hb
        exact hb
      refine ⟨_, rfl, iteF ?_⟩
      refine run_next ?_
      dsimp only
      refine ⟨_, rfl, _, rfl, pg, u, W, G, cs, p, rfl, hPG.same S1, hu.same S1, fun l us H2 S2 nl hl hB => ?_⟩
      have fW : ∀ b ∈ cs.filter (wthn p), small1 (b.r - b.l) := fun b hb => by
        have o := T.wf b (List.mem_filter.mp hb).1
        have := o.h0
        have := o.h1
        have := o.h2
        unfold small1
        omega
      have lf : (cs.filter (wthn p)).length ≤ 24 := Nat.le_trans (List.length_filter_le _ _) h24
      have PA := piece_area T hb2.1 hb2.2
      generalize cs.filter (wthn p) = bs at hB fW lf PA
      have lu := hB.len
      refine ⟨l, rfl, ⟨_, SqL.of hl⟩, cmp_list (K := K) (a := l) (xs := us) (fun i ys σ H' => (∃ o, σ = [o]) ∧ ys = (bs.take i).map (fun b => V.int (area b)) ∧ Same H2 H')
        ⟨⟨none, rfl⟩, rfl, Same.refl _⟩ (fun i ys σ H' hi ⟨_, e, S⟩ => ⟨by rw [e, List.length_map, List.length_take]; exact Nat.le_trans (show _ ≤ 1000 by omega) (by decide), SqL.of (S _ _ hl)⟩) ?_ ?_⟩
      · rintro ys σ H3 ⟨_, e, S3⟩ la nla
        rw [lu, List.take_length] at e
        have hla : upd H3 la (.lst ys) la = some (.lst ((bs.map area).map V.int)) := by rw [upd_same, e, List.map_map]; rfl
        have S4 := S3.trans (same_new (o := .lst ys) nla)
        generalize upd H3 la (.lst ys) = H4 at hla S4
        refine ⟨la, bs.map area, rfl, SqL.of hla, ?_⟩
        have S14 := (S1.trans S2).trans S4
        refine ⟨_, rfl, u, p, rfl, hu.same S14, hs, ?_⟩
        refine ⟨rfl, ?_⟩
        rw [dec_int]
        refine q _ H4 S14 ?_
        rw [← PA, beq_iff_eq]
      · rintro i x ys σ H3 hx ⟨⟨o, rfl⟩, e, S3⟩
        subst e
        have hi : i < bs.length := by rw [← lu]; exact (List.getElem?_eq_some_iff.mp hx).1
        have eb : bs[i]? = some bs[i] := List.getElem?_eq_getElem hi
        have sm := fW bs[i] (List.getElem_mem hi)
        generalize bs[i] = b at eb sm
        obtain ⟨v, hv, hb⟩ := hB.get eb
        rw [hx] at hv
        cases hv
        dsimp only [gName, tYes]
        refine iteT ?_
        refine ⟨_, rfl, x, b, rfl, hb.same S3, .inl sm, ⟨_, rfl⟩, ?_, S3⟩
        rw [List.take_add_one, eb, List.map_append]
        rfl
theorem scIsS : FnScope ["page", "piece"] ["page", "piece"] (defScope sIsS) := ⟨rfl, rfl, rfl, by decide +kernel, rfl, by decide +kernel, by decide +kernel⟩
theorem ok_isS {f fI fC : Addr} {fd dI dC : FuncData} (F : Fun K "is_stuck" "is_stuck" sIsS f fd) (gBOXES : GI mg "BOXES" 2) (Ip : Callee P w K mg base CX0 3 "is_piece" fI dI ["page", "thing"] spIsP) (Hc : Callee P w K mg base CX0 5 "has_cut" fC dC ["page", "piece"] spHasC) : FnOk P w K mg base CX0 6 f fd ["page", "piece"] spIsS := by
  refine F.ok scIsS (fun vs H Q E h => ?_) (fun cdv A outer s H vs Q E hr h => ?_)
  · obtain ⟨pg, u, W, G, cs, p, rfl, _⟩ := h
    rfl
  · obtain ⟨pg, u, W, G, cs, p, rfl, hPG, hu, T, hW, hs, q⟩ := h
    refine ⟨_, (pss_one (ps_ret (pe_and (pe_call Ip.ok (hr.mono (by decide)) rfl Ip.bound Ip.kp Ip.bd .nil pass0 (pa_cons (pv 0) (pa_cons (pv 1) pa_nil))) (pe_and (pe_cmpR (op_notInT rfl hr.units) (pv 1) (pe_ix ix_tup (pv 0) (pe_gi rfl gBOXES) (fun _ _ => rfl)) rfl) (pe_one (pe_not (pe_call Hc.ok hr rfl Hc.bound Hc.kp Hc.bd .nil pass0 (pa_cons (pv 0) (pa_cons (pv 1) pa_nil))))))))), ?_⟩
    refine ⟨_, rfl, _, rfl, pg, u, W, G, cs, p, rfl, hPG, hu, T, hW, hs, fun c H1 S1 hc => ⟨_, rfl, ?_⟩⟩
    unfold IsS at q
    cases c with
    | false => exact iteF (q false H1 S1 ⟨fun z => (nomatch z), fun z => hc.mpr z.1⟩)
    | true =>
      have PC := hc.mp rfl
      refine iteT ?_
      obtain ⟨a, rfl, ha⟩ := hu
      obtain ⟨tb, us, hpg, htb, hB, h24⟩ := id (hPG.same S1)
      obtain ⟨as, e, eu, hE, hany⟩ := in_boxes (K := K) hB (S1 _ _ ha)
      subst eu
      refine ⟨_, rfl, _, rfl, _, _, _, _, rfl, rfl, SqT.of hpg, rfl, tb, as, e, 1, rfl, htb.sq, by decide, hE, _, rfl, ?_⟩
      rw [hany]
      by_cases hp : p ∈ cs
      · rw [decide_eq_true hp]
        exact iteF (q false H1 S1 ⟨fun z => (nomatch z), fun z => absurd hp z.2.1⟩)
      · rw [decide_eq_false hp]
        refine iteT ?_
        refine ⟨_, rfl, _, rfl, pg, .ref a, W, G, cs, p, rfl, hPG.same S1, ⟨a, rfl, S1 _ _ ha⟩, T, PC, fun c2 H2 S2 hc2 => ?_⟩
        refine ⟨_, rfl, q (!c2) H2 (S1.trans S2) ?_⟩
        cases c2 with
        | true => exact ⟨fun z => (nomatch z), fun z => absurd (hc2.mp rfl) z.2.2⟩
        | false => exact ⟨fun _ => ⟨PC, hp, fun z => by cases hc2.mpr z⟩, fun _ => rfl⟩
end
end JC
set_option Elab.async false
set_option linter.all false
set_option maxRecDepth 100000
namespace Tre
open PySem L2
inductive T where
  | non | bl (b : Bool) | int (i : Int) | str (x : Str) | tup (ts : List T) | lst | dic
mutual
def sz : T → Nat
  | .tup ts => 1 + szL ts
  | .non => 1
  | .bl _ => 1
  | .int _ => 1
  | .str _ => 1
  | .lst => 1
  | .dic => 1
def szL : List T → Nat
  | [] => 0
  | t :: r => sz t + szL r
end
def bar : Str := "|"
def dash : Str := "-"
def isK (k : Str) : Prop := k = bar ∨ k = dash
def HasK (t : T) (k : Str) : Prop := ∃ q, t = .tup [.str k, q]
mutual
inductive Good : T → List Int → Prop where
  | leaf (i : Int) : Good (.int i) [i]
  | node {k : Str} {ps : List T} {nss : List (List Int)} (hk : isK k) (h2 : 2 ≤ ps.length) (hn : ∀ p ∈ ps, ¬ HasK p k) (h : GoodL ps nss) : Good (.tup [.str k, .tup ps]) nss.flatten
inductive GoodL : List T → List (List Int) → Prop where
  | nil : GoodL [] []
  | cons {t : T} {ns : List Int} {ts : List T} {nss : List (List Int)} (h : Good t ns) (r : GoodL ts nss) : GoodL (t :: ts) (ns :: nss)
end
def up (n : Nat) : List Int := (List.range n).map fun i : Nat => (i : Int)
end Tre
set_option Elab.async false
set_option linter.all false
set_option maxRecDepth 100000
set_option maxHeartbeats 4000000
namespace L2
open PySem PySem.Spec PyProof.Rows
section
variable {X : Cx}
def tLR3 (ta : TA) : TE := fun σ H Q => ta σ H fun vs H1 => ∃ n : Nat, vs = [.int n] ∧ n ≤ 1000000 ∧ ∀ l, H1 l = none → Q (.ref l) (upd H1 l (.lst ((List.range n).map fun i : Nat => V.int i)))
theorem vals_items {n : Nat} {its : Array Value} (h : ItemsOf (fun i v => ∃ t, v = Value.int (0 + (i : Int) * 1) t) its n) : Vals ((List.range n).map fun i : Nat => V.int i) its.toList := by
  obtain ⟨h1, h2⟩ := h
  have : ∀ (us : List Value) (k : Nat), (∀ j v, us[j]? = some v → ∃ t, v = Value.int ((k + j : Nat) : Int) t) → Vals ((List.range us.length).map fun i : Nat => V.int ((k + i : Nat) : Int)) us := by
    intro us
    induction us with
    | nil => intro k _; exact .nil
    | cons u us ih =>
      intro k h
      rw [List.length_cons, List.range_succ_eq_map, List.map_cons, List.map_map]
      refine .cons ?_ ?_
      · obtain ⟨t, rfl⟩ := h 0 u rfl
        exact ⟨t, rfl⟩
      · have := ih (k + 1) fun j v e => by
          obtain ⟨t, rfl⟩ := h (j + 1) v (by simpa using e)
          exact ⟨t, by rw [show k + 1 + j = k + (j + 1) by omega]⟩
        have e : ((fun i : Nat => V.int ((k + i : Nat) : Int)) ∘ Nat.succ) = fun i : Nat => V.int ((k + 1 + i : Nat) : Int) := by
          funext i
          show V.int ((k + (i + 1) : Nat) : Int) = V.int ((k + 1 + i : Nat) : Int)
          rw [show k + (i + 1) = k + 1 + i by omega]
        rw [e]
        exact this
  have := this its.toList 0 fun j v e => by
    obtain ⟨t, rfl⟩ := h2 j v (by rw [← Array.getElem?_toList]; exact e)
    exact ⟨t, by simp⟩
  rw [Array.length_toList, h1] at this
  simpa using this
theorem pe_listRange {a : Expr} {ta : TA} {p p2 pos pos2 : Pos} (hc : X.calm = true) (hgl : Gl X "list") (hml : X.mg "list" = none) (hg : Gl X "range") (hm : X.mg "range" = none) (ha : PA X [a] ta) (hs : starEach [a] X.env = [(false, eval a X.env)] := by rfl)
    (hs2 : starEach [.Call (.Name "range" p2) [a] [] pos2] X.env = [(false, eval (.Call (.Name "range" p2) [a] [] pos2) X.env)] := by rfl) : PE X (.Call (.Name "list" p) [.Call (.Name "range" p2) [a] [] pos2] [] pos) (tLR3 ta) := by
  intro pins s σ H Q I h
  refine wpAny_Call_Name_kw (ld_blt I hgl hml boot_list (PyProof.Rows.callWith_type1 ?_ hs2 rfl))
  rw [hs2]
  refine Calls.spliced_cons (Call_ (ld_blt I hg hm boot_range (PyProof.Rows.callWith_type1 (thn (ha pos2 pins s σ H _ I h) fun us s1 ⟨vs, H1, I1, r1, q1⟩ => ?_) hs rfl)))
  obtain ⟨n, e, hn, q⟩ := q1
  subst e
  obtain ⟨u, rfl, t, rfl⟩ := vals1 r1
  refine call_range_1 (Calls.spliced_nil ?_)
  refine call_list_range (n := n) (I1.ok.hd hc) (IsRange.new ..) (small_one (by decide) (by decide) (by omega) (by omega)) (by rw [rangeSize_one]; split <;> omega) (by omega) fun h' tk acc c' kp hl it => ?_
  have I2 : Inv X pins σ H1 { s1 with heap := s1.heap.push { cls := .type "range", data := .fields #[.int 0 s1.toks, .int n t, .int 1 (s1.toks + 1)] }, toks := s1.toks + 1 + 1 } := I1.kept fun b o e => Heap.get?_push_of_some _ e
  refine ⟨.ref _, _, I2.laid (t' := tk) (o := .lst ((List.range n).map fun i : Nat => V.int i)) kp (Nat.le_refl _) ⟨by rw [List.length_map, List.length_range]; exact Nat.le_trans hn (by decide), acc.toList, c', vals_items it, by simpa using hl⟩, rfl, q _ (I2.hok.fresh (Nat.le_refl _))⟩
end
end L2
set_option Elab.async false
set_option linter.all false
set_option maxRecDepth 100000
set_option maxHeartbeats 1000000
namespace Tre
open PySem
theorem bar_dash : bar ≠ dash := by decide +kernel
end Tre
namespace JC
open PySem L2 Til Tre PySem.W
mutual
inductive At (H : Hp) : V → T → Prop where
  | non : At H .non .non
  | bl (b : Bool) : At H (.bl b) (.bl b)
  | int (i : Int) : At H (.int i) (.int i)
  | str (x : Str) : At H (.str x) (.str x)
  | tup {a : Addr} {vs : List V} {ts : List T} (e : H a = some (.tup vs)) (h : AtL H vs ts) : At H (.ref a) (.tup ts)
  | lst {a : Addr} {vs : List V} (e : H a = some (.lst vs)) : At H (.ref a) .lst
  | dic {a : Addr} {kvs : List (Key × V)} (e : H a = some (.dK kvs)) : At H (.ref a) .dic
inductive AtL (H : Hp) : List V → List T → Prop where
  | nil : AtL H [] []
  | cons {v : V} {t : T} {vs : List V} {ts : List T} (h : At H v t) (r : AtL H vs ts) : AtL H (v :: vs) (t :: ts)
end
mutual
theorem At.same {H H' : Hp} (S : Same H H') : ∀ {v : V} {t : T}, At H v t → At H' v t
  | _, _, .non => .non
  | _, _, .bl b => .bl b
  | _, _, .int i => .int i
  | _, _, .str x => .str x
  | _, _, .tup e h => .tup (S _ _ e) (AtL.same S h)
  | _, _, .lst e => .lst (S _ _ e)
  | _, _, .dic e => .dic (S _ _ e)
theorem AtL.same {H H' : Hp} (S : Same H H') : ∀ {vs : List V} {ts : List T}, AtL H vs ts → AtL H' vs ts
  | _, _, .nil => .nil
  | _, _, .cons h r => .cons (At.same S h) (AtL.same S r)
end
theorem AtL.len {H : Hp} : ∀ {vs : List V} {ts : List T}, AtL H vs ts → vs.length = ts.length
  | _, _, .nil => rfl
  | _, _, .cons _ r => by rw [List.length_cons, List.length_cons, r.len]
theorem AtL.get {H : Hp} : ∀ {vs : List V} {ts : List T} {i : Nat} {v : V}, AtL H vs ts → vs[i]? = some v → ∃ t, ts[i]? = some t ∧ At H v t
  | _, _, _, _, .nil, e => by simp at e
  | _, _, 0, _, .cons h _, e => by simp at e; subst e; exact ⟨_, rfl, h⟩
  | _, _, i + 1, v, .cons _ r, e => by
    obtain ⟨t, h1, h2⟩ := AtL.get (i := i) (v := v) r (by simpa using e)
    exact ⟨t, by simpa using h1, h2⟩
theorem AtL.app {H : Hp} : ∀ {vs us : List V} {ts ss : List T}, AtL H vs ts → AtL H us ss → AtL H (vs ++ us) (ts ++ ss)
  | _, _, _, _, .nil, s => s
  | _, _, _, _, .cons h r, s => .cons h (AtL.app r s)
def tyT : T → Value
  | .non => .type "NoneType"
  | .bl _ => .type "bool"
  | .int _ => .type "int"
  | .str _ => .type "str"
  | .tup _ => .type "tuple"
  | .lst => .type "list"
  | .dic => .type "dict"
theorem At.ty {K : PySem.W.Frag} {H : Hp} {v : V} {t : T} (h : At H v t) : TyX K H v (tyT t) := by
  cases h with
  | non => exact .of .non
  | bl b => exact .of (.bl b)
  | int i => exact .of (.int i)
  | str x => exact .of (.str x)
  | tup e _ => exact .of (.tup e)
  | lst e => exact .of (.lst e)
  | dic e => exact .of (.dK e)
def isIB : T → Bool
  | .int _ => true
  | .bl _ => true
  | _ => false
def isBl : T → Bool
  | .bl _ => true
  | _ => false
def isTp : T → Bool
  | .tup _ => true
  | _ => false
structure Nt (K : PySem.W.Frag) (mg : Str → Option Value) : Prop where
  ti : mg "isinstance" = none
  tint : mg "int" = none
  tbool : mg "bool" = none
  ttup : mg "tuple" = none
  tlist : mg "list" = none
  tl : mg "len" = none
  tr : mg "range" = none
  kI : ∀ t, kitOne K (tyT t) (.type "int") = some (isIB t)
  kB : ∀ t, kitOne K (tyT t) (.type "bool") = some (isBl t)
  kT : ∀ t, kitOne K (tyT t) (.type "tuple") = some (isTp t)
def spCellAt (K : PySem.W.Frag) : Sp := fun vs H Q _ => ∃ (a : Addr) (ns : List Int) (k : Int), vs = [.ref a, .int k] ∧ SqL K H a (ns.map V.int) ∧ 0 ≤ k ∧ ∀ n : Int, Q (.int n) H
section
variable {P : Program} {w : World} {K : PySem.W.Frag} {mg : Str → Option Value} {base : Heap}
theorem scCellAt : FnScope ["script", "k"] ["script", "k"] (defScope sCellAt) := ⟨rfl, rfl, rfl, by decide +kernel, rfl, by decide +kernel, by decide +kernel⟩
theorem ok_cellAt {f : Addr} {fd : FuncData} (F : Fun K "_law_cell_at" "_law_cell_at" sCellAt f fd) (tl : mg "len" = none) : FnOk P w K mg base CX0 1 f fd ["script", "k"] (spCellAt K) := by
  refine F.ok scCellAt (fun vs H Q E h => ?_) (fun cdv A outer s H vs Q E hr h => ?_)
  · obtain ⟨a, ns, k, rfl, _⟩ := h
    rfl
  · obtain ⟨a, ns, k, rfl, hS, k1, q⟩ := h
    refine ⟨_, (pss_cons (ps_if (pt_cmpR op_lt (pv 1) (pe_callB call_len_seq (by rfl) tl PySem.boot_len (pa_cons (pv 0) pa_nil)) (nomark _))
      (pss_one (ps_ret (pe_ix ix_list (pv 0) (pv 1) (fun _ _ => rfl))))
      pss_nil)
      (pss_one (ps_ret pe_int))), ?_⟩
    refine ⟨_, rfl, _, rfl, _, _, rfl, .inl hS, _, _, rfl, rfl, _, rfl, ?_⟩
    rw [List.length_map]
    refine ite2 (fun c1 => ?_) (fun c1 => ?_)
    · have c1 := of_decide_eq_true c1
      exact ⟨_, rfl, _, rfl, _, _, _, _, rfl, rfl, hS, at_map k1 c1, q _⟩
    · exact q _
end
theorem AtL.knot {H : Hp} {vs : List V} {k : Str} {ps : List T} (h : AtL H vs [.str k, .tup ps]) : ∃ b ws, vs = [.str k, .ref b] ∧ H b = some (.tup ws) ∧ AtL H ws ps := by
  cases h with
  | cons h r =>
    cases h
    cases r with
    | cons h2 r2 =>
      cases r2
      cases h2 with
      | tup e hq => exact ⟨_, _, rfl, e, hq⟩
end JC
set_option Elab.async false
set_option linter.all false
set_option maxRecDepth 100000
set_option maxHeartbeats 4000000
namespace JC
open PySem L2 Til
def TL (a b : Bx) : Prop := a.t < b.t ∨ (a.t = b.t ∧ a.l ≤ b.l)
def picked {α : Type} (d : α) (p : Array Nat) (xs : List α) : List α := p.toList.map fun i => xs.getD i d
theorem range_pick {α : Type} (d : α) (xs : List α) : (List.range xs.length).map (fun i => xs.getD i d) = xs := by
  refine List.ext_getElem (by simp) fun i h1 h2 => ?_
  rw [List.getElem_map, List.getElem_range, L2.getD_at h2]
theorem picked_perm {α : Type} {d : α} {p : Array Nat} {xs : List α} (o : Srt.Ord xs.length p) : (picked d p xs).Perm xs := by
  have h : p.toList.Perm (List.range xs.length) := by
    have := Array.perm_iff_toList_perm.mp o.pm
    simpa using this
  have h2 := h.map fun i => xs.getD i d
  rw [range_pick] at h2
  exact h2
theorem picked_len {α : Type} {d : α} {p : Array Nat} {xs : List α} (o : Srt.Ord xs.length p) : (picked d p xs).length = xs.length := (picked_perm o).length_eq
def bxZ : Bx := ⟨0, 0, 0, 0⟩
theorem boxes_pick {H : Hp} {us : List V} {bs : List Bx} (h : BoxesAt H us bs) : ∀ (ls : List Nat), (∀ i ∈ ls, i < bs.length) → BoxesAt H (ls.map fun i => us.getD i .non) (ls.map fun i => bs.getD i bxZ)
  | [], _ => .nil
  | i :: ls, hl => by
    have hi := hl i List.mem_cons_self
    obtain ⟨v, e, r⟩ := h.get (List.getElem?_eq_getElem hi)
    refine .cons ?_ (boxes_pick h ls fun j hj => hl j (List.mem_cons_of_mem _ hj))
    have e1 : us.getD i .non = v := by rw [List.getD_eq_getElem?_getD, e]; rfl
    show BoxAt H (us.getD i .non) (bs.getD i bxZ)
    rw [e1, L2.getD_at hi]
    exact r
theorem boxes_picked {H : Hp} {us : List V} {bs : List Bx} {p : Array Nat} (h : BoxesAt H us bs) (o : Srt.Ord bs.length p) : BoxesAt H (picked .non p us) (picked bxZ p bs) :=
  boxes_pick h _ fun i hi => by
    have m : i ∈ p := by simpa using hi
    have m2 : i ∈ (List.toArray (List.range bs.length)) := (Array.Perm.mem_iff o.pm).mp m
    simpa using m2
theorem picked_sorted {bs : List Bx} {p : Array Nat} {B : Int} (o : Srt.Ord bs.length p) (hB : ∀ b ∈ bs, 0 ≤ b.l ∧ b.l < B) (u : Srt.Up (lexKey B (bs.map fun b => (b.t, b.l))) p bs.length) : (picked bxZ p bs).Pairwise TL := by
  rw [List.pairwise_iff_getElem]
  intro i j hi hj hij
  have lp : (picked bxZ p bs).length = bs.length := picked_len o
  have lz : p.size = bs.length := o.sz
  have key : ∀ k, k < bs.length → ∃ b, b ∈ bs ∧ (∀ h, (picked bxZ p bs)[k]'h = b) ∧ Srt.kv (lexKey B (bs.map fun b => (b.t, b.l))) p k = b.t * B + b.l := by
    intro k hk
    have hk' : p.getD k 0 < bs.length := o.lt hk
    refine ⟨bs[p.getD k 0], List.getElem_mem _, fun h => ?_, ?_⟩
    · have e : p.toList[k]'(by rw [Array.length_toList, lz]; exact hk) = p.getD k 0 := by simp [Array.getD, lz, hk]
      have : ∀ h', (List.map (fun i => bs.getD i bxZ) p.toList)[k]'h' = bs[p.getD k 0] := fun h' => by rw [List.getElem_map, e, L2.getD_at hk']
      exact this h
    · unfold Srt.kv lexKey
      rw [List.getD_eq_getElem?_getD, List.getElem?_map, List.getElem?_eq_getElem hk']
      rfl
  obtain ⟨a, ma, ea, ka⟩ := key i (by omega)
  obtain ⟨b, mb, eb, kb⟩ := key j (by omega)
  rw [ea, eb]
  have le := u.le (i := i) (j := j) (by omega) (by omega)
  rw [ka, kb] at le
  have h1 := hB a ma
  have h2 := hB b mb
  have z := lex_lt (a := b.t) (c := a.t) h2 h1
  have nz : ¬ (b.t < a.t ∨ (b.t = a.t ∧ b.l < a.l)) := fun w => by have := z.mpr w; omega
  unfold TL
  omega
structure Np (K : PySem.W.Frag) (mg : Str → Option Value) : Prop where
  gLEFT : GI mg "LEFT" 0
  gTOP : GI mg "TOP" 1
  gRIGHT : GI mg "RIGHT" 2
  gBELOW : GI mg "BELOW" 3
  gMOST : GI mg "MOST_BOXES" 24
  ti : mg "isinstance" = none
  tint : mg "int" = none
  tbool : mg "bool" = none
  ttup : mg "tuple" = none
  tlist : mg "list" = none
  tl : mg "len" = none
  tall : mg "all" = none
  tany : mg "any" = none
  tsum : mg "sum" = none
  ts : mg "sorted" = none
  te : mg "enumerate" = none
  ib : PySem.W.kitOne K (.type "int") (.type "bool") = some false
def spLength : Sp := fun vs H Q _ => ∃ i : Int, vs = [.int i] ∧ Q (.bl (decide (1 ≤ i))) H
def spAre : Sp := fun vs H Q _ => ∃ (l : Addr) (us : List V) (bs : List Bx), vs = [.ref l] ∧ H l = some (.lst us) ∧ BoxesAt H us bs ∧ bs.length ≤ 1000 ∧
  ∀ H', Same H H' → Q (.bl (decide (1 ≤ bs.length) && decide (bs.length ≤ 24) && bs.all boxB)) H'
def withinB (b : Bx) (W G : Int) : Bool := decide (0 ≤ b.l) && (decide (b.r ≤ W) && (decide (0 ≤ b.t) && decide (b.b ≤ G)))
def spWithin : Sp := fun vs H Q _ => ∃ (v : V) (b : Bx) (W G : Int), vs = [v, .int W, .int G] ∧ BoxAt H v b ∧ Q (.bl (withinB b W G)) H
def spOverlap : Sp := fun vs H Q _ => ∃ (v u : V) (b c : Bx), vs = [v, u] ∧ BoxAt H v b ∧ BoxAt H u c ∧ Q (.bl (lap b c)) H
def spAny : Sp := fun vs H Q _ => ∃ (l : Addr) (us : List V) (bs : List Bx), vs = [.ref l] ∧ H l = some (.lst us) ∧ BoxesAt H us bs ∧ bs.length ≤ 1000 ∧
  (bs.Pairwise (fun b c => lap b c = false) → ∀ H', Same H H' → Q (.bl false) H') ∧ (¬ bs.Pairwise (fun b c => lap b c = false) → ∀ H', Same H H' → Q (.bl true) H')
def FillP (bs : List Bx) (W G : Int) : Prop := (∀ b ∈ bs, 0 ≤ b.l ∧ b.r ≤ W ∧ 0 ≤ b.t ∧ b.b ≤ G) ∧ bs.Pairwise (fun b c => lap b c = false) ∧ (bs.map area).sum = W * G
def spFill : Sp := fun vs H Q _ => ∃ (l : Addr) (us : List V) (bs : List Bx) (W G : Int), vs = [.ref l, .int W, .int G] ∧ H l = some (.lst us) ∧ BoxesAt H us bs ∧ bs.length ≤ 24 ∧ (∀ b ∈ bs, b.l < b.r ∧ b.t < b.b) ∧ 1 ≤ W ∧ W ≤ 2 ^ 28 ∧ 1 ≤ G ∧ G ≤ 2 ^ 28 ∧
  (FillP bs W G → ∀ H', Same H H' → Q (.bl true) H') ∧ (¬ FillP bs W G → ∀ H', Same H H' → Q (.bl false) H')
def spTtl : Sp := fun vs H Q _ => ∃ (v : V) (b : Bx), vs = [v] ∧ BoxAt H v b ∧ ∀ p H', Same H H' → H' p = some (.tup [.int b.t, .int b.l]) → Q (.ref p) H'
def spMake (C : Addr) : Sp := fun vs H Q E => ∃ (l : Addr) (us : List V) (bs : List Bx) (W G : Int), vs = [.int W, .int G, .ref l] ∧ H l = some (.lst us) ∧ BoxesAt H us bs ∧ bs.length ≤ 1000 ∧ W ≤ 2 ^ 28 ∧ G ≤ 2 ^ 28 ∧
  (Page W G bs → ∀ (pg : Addr) (cs : List Bx) (H' : Hp), Same H H' → PageAt H' pg W G cs → cs.Perm bs → cs.Pairwise TL → Q (.ref pg) H') ∧ (¬ Page W G bs → ∀ H', Same H H' → E (.ref C) none H')
theorem bools_take {α : Type} (f : α → Bool) {bs : List α} {i : Nat} {b : α} (h : bs[i]? = some b) : (bs.take i).map (fun b => V.bl (f b)) ++ [.bl (f b)] = (bs.take (i + 1)).map (fun b => V.bl (f b)) := by
  obtain ⟨hi, e⟩ := List.getElem?_eq_some_iff.mp h
  rw [← List.take_append_getElem hi, List.map_append, e]
  rfl
theorem ints_take {α : Type} (f : α → Int) {bs : List α} {i : Nat} {b : α} (h : bs[i]? = some b) : (bs.take i).map (fun b => V.int (f b)) ++ [.int (f b)] = (bs.take (i + 1)).map (fun b => V.int (f b)) := by
  obtain ⟨hi, e⟩ := List.getElem?_eq_some_iff.mp h
  rw [← List.take_append_getElem hi, List.map_append, e]
  rfl
section
variable {P : Program} {w : World} {K : PySem.W.Frag} {mg : Str → Option Value} {base : Heap}
theorem scLength : FnScope ["thing"] ["thing"] (defScope sLength) := ⟨rfl, rfl, rfl, by decide +kernel, rfl, by decide +kernel, by decide +kernel⟩
theorem ok_length {f fW : Addr} {fd fdW : FuncData} (F : Fun K "is_length" "is_length" sLength f fd) (Wo : Callee P w K mg base CX0 1 "is_whole" fW fdW ["thing"] spWhole) : FnOk P w K mg base CX0 2 f fd ["thing"] spLength := by
  refine F.ok scLength (fun vs H Q E h => ?_) (fun cdv A outer s H vs Q E hr h => ?_)
  · obtain ⟨i, rfl, _⟩ := h
    rfl
  · obtain ⟨i, rfl, q⟩ := h
    refine ⟨_, (pss_one (ps_ret (pe_and (pe_call Wo.ok hr rfl Wo.bound Wo.kp Wo.bd .nil pass0 (pa_cons (pv 0) pa_nil)) (pe_one (pe_cmpR op_ge (pv 0) pe_int (nomark _)))))), ?_⟩
    exact ⟨_, rfl, i, rfl, _, rfl, iteT ⟨_, rfl, _, _, rfl, rfl, q⟩⟩
theorem scAre : FnScope ["things"] ["things"] (defScope sAreB) := ⟨rfl, rfl, rfl, by decide +kernel, rfl, by decide +kernel, by decide +kernel⟩
theorem ok_are {f fB : Addr} {fd fdB : FuncData} (F : Fun K "are_boxes" "are_boxes" sAreB f fd) (Z : Np K mg) (Bo : Callee P w K mg base CX0 2 "is_box" fB fdB ["thing"] spBox) : FnOk P w K mg base CX0 3 f fd ["things"] spAre := by
  obtain ⟨gLEFT, gTOP, gRIGHT, gBELOW, gMOST_BOXES, ti, tint, tbool, ttup, tlist, tl, tall, tany, tsum, ts, te, ib⟩ := Z
  refine F.ok scAre (fun vs H Q E h => ?_) (fun cdv A outer s H vs Q E hr h => ?_)
  · obtain ⟨l, us, bs, rfl, _⟩ := h
    rfl
  · obtain ⟨l, us, bs, rfl, hl, hB, hlen, q⟩ := h
    refine ⟨_, (pss_cons (ps_if (PW.pt (pw_or (pt_not (pt_val (pe_callB call_isi (by rfl) ti PyProof.Rows.boot_isinstance (pa_cons (pv 0) (pa_cons (pe_tyn rfl tlist PyProof.Rows.boot_list) pa_nil))))) (pw_or1 (pt_not (pt_chain op_le op_le pe_int (pe_callB call_len_seq (by rfl) tl PySem.boot_len (pa_cons (pv 0) pa_nil)) (pe_gi rfl gMOST_BOXES))))))
      (pss_one (ps_ret pe_bl))
      pss_nil)
      (pss_one (ps_ret (pe_callB (call_allL rfl) (by rfl) tall PyProof.Rows.boot_all (pa_cons (pe_comp (Nc := ["thing"]) (ix := [none]) rfl rfl (by refine' pi_list ?zz; case zz => exact (pv 0)) (fun _ _ _ _ _ => (pg_name (i := 0) (by show (["thing"] : List Str).Nodup; decide +kernel) rfl (Or.inl rfl))) (fun _ _ _ _ _ => pts_nil) (fun _ _ _ _ _ => (pe_call Bo.ok hr rfl Bo.bound Bo.kp Bo.bd .nil pass0 (pa_cons (pv 0) pa_nil)))) pa_nil))))), ?_⟩
    have lu := hB.len
    refine ⟨_, rfl, _, _, _, _, rfl, rfl, .of (.lst hl), rfl, _, rfl, iteF ?_⟩
    refine (tst_not (tst_of (p := 1 ≤ (us.length : Int) ∧ (us.length : Int) ≤ 24) ?_)) _ ?_
    · have e : decide (1 ≤ (us.length : Int) ∧ (us.length : Int) ≤ 24) = (decide (1 ≤ (us.length : Int)) && decide ((us.length : Int) ≤ 24)) := Bool.decide_and _ _
      rw [e]
      exact evl_chain evl_c (evl_lenL (evl_var rfl) (SqL.of hl)) evl_c
    refine ite2 (fun c1 => ?_) (fun c1 => ?_)
    · have c1 := of_decide_eq_true c1
      have e : (decide (1 ≤ bs.length) && decide (bs.length ≤ 24) && bs.all boxB) = false := by
        rw [Bool.and_eq_false_iff]
        refine .inl ?_
        rw [Bool.and_eq_false_iff]
        by_cases h1 : 1 ≤ bs.length
        · exact .inr (decide_eq_false (by omega))
        · exact .inl (decide_eq_false h1)
      have z := q H (Same.refl _)
      rw [e] at z
      exact z
    · have c1 : ¬ ¬ (1 ≤ (us.length : Int) ∧ (us.length : Int) ≤ 24) := fun z => c1 (decide_eq_true z)
      refine ⟨_, rfl, l, rfl, ⟨_, SqL.of hl⟩, cmp_list (K := K) (a := l) (xs := us) (fun i ys σ H' => ys = (bs.take i).map (fun b => V.bl (boxB b)) ∧ Same H H' ∧ ∃ o, σ = [o])
        ⟨rfl, Same.refl _, none, rfl⟩ (fun i ys σ H' hi ⟨e, S, _⟩ => ⟨by rw [e, List.length_map, List.length_take]; exact Nat.le_trans (show _ ≤ 1000 by omega) (by decide), SqL.of (S _ _ hl)⟩) ?_ ?_⟩
      · rintro ys σ H' ⟨e, S, _⟩ la nl
        rw [lu, List.take_length] at e
        subst e
        refine ⟨la, bs.map boxB, rfl, SqL.of (by rw [upd_same, List.map_map]; rfl), ?_⟩
        have z := q _ (S.trans (same_new (o := .lst (bs.map fun b => V.bl (boxB b))) nl))
        have e : (decide (1 ≤ bs.length) && decide (bs.length ≤ 24) && bs.all boxB) = (bs.map boxB).all id := by
          rw [decide_eq_true (by omega), decide_eq_true (by omega), List.all_map]
          rfl
        rw [e] at z
        exact z
      · rintro i x ys σ H' hx ⟨e, S, o, rfl⟩
        subst e
        have hil : i < bs.length := by rw [← lu]; exact (List.getElem?_eq_some_iff.mp hx).1
        have eb : bs[i]? = some bs[i] := List.getElem?_eq_getElem hil
        generalize bs[i] = b at eb
        obtain ⟨v, hv, hb⟩ := hB.get eb
        rw [hx] at hv
        cases hv
        dsimp only [gName, tYes]
        refine iteT ?_
        exact ⟨_, rfl, x, b, rfl, hb.same S, fun H2 S2 => ⟨bools_take boxB eb, S.trans S2, _, rfl⟩⟩
theorem scWithin : FnScope ["box", "wide", "high"] ["box", "wide", "high"] (defScope sWithin) := ⟨rfl, rfl, rfl, by decide +kernel, rfl, by decide +kernel, by decide +kernel⟩
theorem ok_within {f : Addr} {fd : FuncData} (F : Fun K "is_within" "is_within" sWithin f fd) (Z : Np K mg) : FnOk P w K mg base CX0 1 f fd ["box", "wide", "high"] spWithin := by
  obtain ⟨gLEFT, gTOP, gRIGHT, gBELOW, gMOST_BOXES, ti, tint, tbool, ttup, tlist, tl, tall, tany, tsum, ts, te, ib⟩ := Z
  refine F.ok scWithin (fun vs H Q E h => ?_) (fun cdv A outer s H vs Q E hr h => ?_)
  · obtain ⟨v, b, W, G, rfl, _⟩ := h
    rfl
  · obtain ⟨v, b, W, G, rfl, ⟨p, rfl, hp⟩, q⟩ := h
    refine ⟨_, (pss_one (ps_ret (pe_and (pe_cmpR op_le pe_int (pe_ix ix_tup (pv 0) (pe_gi rfl gLEFT) (fun _ _ => rfl)) (nomark _)) (pe_and (pe_cmpR op_le (pe_ix ix_tup (pv 0) (pe_gi rfl gRIGHT) (fun _ _ => rfl)) (pv 1) (nomark _)) (pe_and (pe_cmpR op_le pe_int (pe_ix ix_tup (pv 0) (pe_gi rfl gTOP) (fun _ _ => rfl)) (nomark _)) (pe_one (pe_cmpR op_le (pe_ix ix_tup (pv 0) (pe_gi rfl gBELOW) (fun _ _ => rfl)) (pv 2) (nomark _)))))))), ?_⟩
    have t := box_four hp K
    refine run_ret (v := .bl (withinB b W G)) ?_ q
    unfold withinB
    refine evl_andV ?_ (evl_andV ?_ (evl_andV ?_ ?_))
    · exact evl_I0 evl_c (evl_ixT (evl_var rfl) evl_c t rfl)
    · exact evl_I0 (evl_ixT (evl_var rfl) evl_c t rfl) (evl_var rfl)
    · exact evl_I0 evl_c (evl_ixT (evl_var rfl) evl_c t rfl)
    · exact evl_I0 (evl_ixT (evl_var rfl) evl_c t rfl) (evl_var rfl)
theorem scOverlap : FnScope ["one", "other", "across", "down"] ["one", "other"] (defScope sOverlap) := ⟨rfl, rfl, rfl, by decide +kernel, rfl, by decide +kernel, by decide +kernel⟩
theorem ok_overlap {f : Addr} {fd : FuncData} (F : Fun K "overlap" "overlap" sOverlap f fd) (Z : Np K mg) : FnOk P w K mg base CX0 1 f fd ["one", "other"] spOverlap := by
  obtain ⟨gLEFT, gTOP, gRIGHT, gBELOW, gMOST_BOXES, ti, tint, tbool, ttup, tlist, tl, tall, tany, tsum, ts, te, ib⟩ := Z
  refine F.ok scOverlap (fun vs H Q E h => ?_) (fun cdv A outer s H vs Q E hr h => ?_)
  · obtain ⟨v, u, b, c, rfl, _⟩ := h
    rfl
  · obtain ⟨v, u, b, c, rfl, ⟨p, rfl, hp⟩, ⟨r, rfl, hr'⟩, q⟩ := h
    refine ⟨_, (pss_cons (ps_set (i := 2) scOverlap.nd rfl (Or.inl rfl) (pe_and (pe_cmpR op_lt (pe_ix ix_tup (pv 0) (pe_gi rfl gLEFT) (fun _ _ => rfl)) (pe_ix ix_tup (pv 1) (pe_gi rfl gRIGHT) (fun _ _ => rfl)) (nomark _)) (pe_one (pe_cmpR op_lt (pe_ix ix_tup (pv 1) (pe_gi rfl gLEFT) (fun _ _ => rfl)) (pe_ix ix_tup (pv 0) (pe_gi rfl gRIGHT) (fun _ _ => rfl)) (nomark _)))))
      (pss_cons (ps_set (i := 3) scOverlap.nd rfl (Or.inl rfl) (pe_and (pe_cmpR op_lt (pe_ix ix_tup (pv 0) (pe_gi rfl gTOP) (fun _ _ => rfl)) (pe_ix ix_tup (pv 1) (pe_gi rfl gBELOW) (fun _ _ => rfl)) (nomark _)) (pe_one (pe_cmpR op_lt (pe_ix ix_tup (pv 1) (pe_gi rfl gTOP) (fun _ _ => rfl)) (pe_ix ix_tup (pv 0) (pe_gi rfl gBELOW) (fun _ _ => rfl)) (nomark _)))))
      (pss_one (ps_ret (pe_and (pv 2) (pe_one (pv 3))))))), ?_⟩
    have t := box_four hp K
    have t' := box_four hr' K
    refine seq_asg (v := .bl (decide (b.l < c.r) && decide (c.l < b.r))) ?_ ?_
    · refine evl_andV ?_ ?_
      · exact evl_I0 (evl_ixT (evl_var rfl) evl_c t rfl) (evl_ixT (evl_var rfl) evl_c t' rfl)
      · exact evl_I0 (evl_ixT (evl_var rfl) evl_c t' rfl) (evl_ixT (evl_var rfl) evl_c t rfl)
    refine seq_asg (v := .bl (decide (b.t < c.b) && decide (c.t < b.b))) ?_ ?_
    · refine evl_andV ?_ ?_
      · exact evl_I0 (evl_ixT (evl_var rfl) evl_c t rfl) (evl_ixT (evl_var rfl) evl_c t' rfl)
      · exact evl_I0 (evl_ixT (evl_var rfl) evl_c t' rfl) (evl_ixT (evl_var rfl) evl_c t rfl)
    exact run_ret (v := .bl (lap b c)) (evl_andV (evl_var rfl) (evl_var rfl)) q
theorem scTtl : FnScope ["box"] ["box"] (defScope sTtl) := ⟨rfl, rfl, rfl, by decide +kernel, rfl, by decide +kernel, by decide +kernel⟩
theorem ok_ttl {f : Addr} {fd : FuncData} (F : Fun K "top_then_left" "top_then_left" sTtl f fd) (Z : Np K mg) : FnOk P w K mg base CX0 1 f fd ["box"] spTtl := by
  obtain ⟨gLEFT, gTOP, gRIGHT, gBELOW, gMOST_BOXES, ti, tint, tbool, ttup, tlist, tl, tall, tany, tsum, ts, te, ib⟩ := Z
  refine F.ok scTtl (fun vs H Q E h => ?_) (fun cdv A outer s H vs Q E hr h => ?_)
  · obtain ⟨v, b, rfl, _⟩ := h
    rfl
  · obtain ⟨v, b, rfl, ⟨p, rfl, hp⟩, q⟩ := h
    refine ⟨_, (pss_one (ps_ret (pe_tup (pa_cons (pe_ix ix_tup (pv 0) (pe_gi rfl gTOP) (fun _ _ => rfl)) (pa_cons (pe_ix ix_tup (pv 0) (pe_gi rfl gLEFT) (fun _ _ => rfl)) pa_nil))))), ?_⟩
    have t := box_four hp K
    exact ⟨_, rfl, _, _, _, _, rfl, rfl, t, rfl, _, rfl, _, _, _, _, rfl, rfl, t, rfl, by show 2 ≤ sizeLine; decide, fun p' n' => q p' _ (same_new n') upd_same⟩
theorem scAny : FnScope ["boxes", "number", "box"] ["boxes"] (defScope sAny) := ⟨rfl, rfl, rfl, by decide +kernel, rfl, by decide +kernel, by decide +kernel⟩
theorem ok_any {f fO : Addr} {fd fdO : FuncData} (F : Fun K "any_overlap" "any_overlap" sAny f fd) (Z : Np K mg) (Ov : Callee P w K mg base CX0 1 "overlap" fO fdO ["one", "other"] spOverlap) : FnOk P w K mg base CX0 2 f fd ["boxes"] spAny := by
  obtain ⟨gLEFT, gTOP, gRIGHT, gBELOW, gMOST_BOXES, ti, tint, tbool, ttup, tlist, tl, tall, tany, tsum, ts, te, ib⟩ := Z
  refine F.ok scAny (fun vs H Q E h => ?_) (fun cdv A outer s H vs Q E hr h => ?_)
  · obtain ⟨l, us, bs, rfl, _⟩ := h
    rfl
  · obtain ⟨l, us, bs, rfl, hl, hB, hlen, qF, qT⟩ := h
    refine ⟨_, (pss_cons (ps_for PassesOwn.never rfl (pi_enumL rfl te (pa_cons (pv 0) pa_nil)) (pg_tup rfl (pgs_cons (pg_name (i := 1) scAny.nd rfl (Or.inl rfl)) (pgs_cons (pg_name (i := 2) scAny.nd rfl (Or.inr rfl)) pgs_nil)))
      (pss_one (ps_if (pt_val (pe_callB (call_anyL rfl) (by rfl) tany PyProof.Rows.boot_any (pa_cons (pe_comp (Nc := ["other", "box"]) (ix := [none, some 2]) rfl rfl (by refine' pi_list ?zz; case zz => exact (pe_slice sl_list (pv 0) (po_some (pe_op op_add (pv 1) pe_int)) po_none)) (fun _ _ _ _ _ => (pg_name (i := 0) (by show (["other", "box"] : List Str).Nodup; decide +kernel) rfl (Or.inl rfl))) (fun _ _ _ _ _ => pts_nil) (fun _ _ _ _ _ => (pe_call Ov.ok hr rfl Ov.bound Ov.kp Ov.bd .nil pass0 (pa_cons (pv 1) (pa_cons (pv 0) pa_nil))))) pa_nil)))
        (pss_one (ps_ret pe_bl))
        pss_nil)))
      (pss_one (ps_ret pe_bl))), ?_⟩
    have lu := hB.len
    refine ⟨_, rfl, l, rfl, ⟨_, SqL.of hl⟩, ?_⟩
    refine for_enumL (K := K) (a := l) (xs := us) (fun i σ H2 => ∃ (o1 o2 : Option V), σ = [some (.ref l), o1, o2] ∧ Same H H2 ∧ ∀ (j : Nat) (b : Bx), j < i → bs[j]? = some b → ∀ c ∈ bs.drop (j + 1), lap b c = false)
      ⟨none, none, rfl, Same.refl _, fun j b hj => absurd hj (Nat.not_lt_zero _)⟩ (fun i σ H2 _ ⟨_, _, _, s2, _⟩ => SqL.of (s2 _ _ hl)) ?_ ?_
    · rintro i u σ H2 p hi ⟨o1, o2, rfl, S2, no⟩ hn
      have hil : i < bs.length := by rw [← lu]; exact (List.getElem?_eq_some_iff.mp hi).1
      have eb : bs[i]? = some bs[i] := List.getElem?_eq_getElem hil
      generalize bs[i] = b at eb
      obtain ⟨v, hv, hbx⟩ := hB.get eb
      rw [hi] at hv
      cases hv
      have S3 := same_new (o := .tup [.int i, u]) hn
      refine ⟨p, _, rfl, SqT.of upd_same, rfl, _, _, rfl, _, _, rfl, rfl, ?_⟩
      generalize upd H2 p (.tup [.int i, u]) = H3 at S3
      have S23 := S2.trans S3
      refine ⟨_, rfl, _, rfl, _, _, rfl, rfl, _, rfl, l, us, rfl, SqL.of (S23 _ _ hl), fun pc nc => ?_⟩
      have e2 : cutV us (some ((i : Int) + 1)) none = us.drop (i + 1) := cutV_drop us (i + 1) (by omega)
      rw [e2]
      have S4 := S23.trans (same_new (o := .lst (us.drop (i + 1))) nc)
      have hpc : (upd H3 pc (.lst (us.drop (i + 1)))) pc = some (.lst (us.drop (i + 1))) := upd_same
      generalize upd H3 pc (.lst (us.drop (i + 1))) = H4 at S4 hpc
      have hD := (hB.same S4).drop (i + 1)
      have lD := hD.len
      refine ⟨pc, rfl, ⟨_, SqL.of hpc⟩, cmp_list (K := K) (a := pc) (xs := us.drop (i + 1)) (fun k ys σ H' => ys = ((bs.drop (i + 1)).take k).map (fun c => V.bl (lap b c)) ∧ Same H4 H' ∧ ∃ o, σ = [o, some u])
        ⟨rfl, Same.refl _, none, rfl⟩ (fun k ys σ H' hk ⟨e, S, _⟩ => ⟨by rw [e, List.length_map, List.length_take, List.length_drop]; exact Nat.le_trans (show _ ≤ 1000 by omega) (by decide), SqL.of (S _ _ hpc)⟩) ?_ ?_⟩
      · rintro ys σ H' ⟨e, S, _⟩ la nl
        rw [lD, List.take_length] at e
        subst e
        refine ⟨la, (bs.drop (i + 1)).map (lap b), rfl, SqL.of (by rw [upd_same, List.map_map]; rfl), _, rfl, ?_⟩
        have S5 := (S4.trans S).trans (same_new (o := .lst ((bs.drop (i + 1)).map fun c => V.bl (lap b c))) nl)
        rw [List.any_map]
        refine ite2 (fun c1 => ?_) (fun c1 => ?_)
        · refine qT (fun pw => ?_) _ S5
          obtain ⟨c, hc, hl'⟩ := List.any_eq_true.mp c1
          have z : lap b c = false := by
            have e : bs = bs.take i ++ b :: bs.drop (i + 1) := by
              obtain ⟨h, e⟩ := List.getElem?_eq_some_iff.mp eb
              rw [← e, List.getElem_cons_drop, List.take_append_drop]
            rw [e, List.pairwise_append, List.pairwise_cons] at pw
            exact pw.2.1.1 c hc
          rw [show (id ∘ lap b) c = lap b c from rfl, z] at hl'
          cases hl'
        · refine ⟨_, _, rfl, S5, fun j b' hj e c hc => ?_⟩
          by_cases hji : j = i
          · subst hji
            rw [eb] at e
            cases e
            rw [Bool.eq_false_iff]
            intro z
            exact c1 (List.any_eq_true.mpr ⟨c, hc, z⟩)
          · exact no j b' (by omega) e c hc
      · rintro k x ys σ H' hx ⟨e, S, o, rfl⟩
        subst e
        have hkl : k < (bs.drop (i + 1)).length := by rw [← lD]; exact (List.getElem?_eq_some_iff.mp hx).1
        have ec : (bs.drop (i + 1))[k]? = some (bs.drop (i + 1))[k] := List.getElem?_eq_getElem hkl
        generalize (bs.drop (i + 1))[k] = c at ec
        obtain ⟨v, hv, hc⟩ := hD.get ec
        rw [hx] at hv
        cases hv
        dsimp only [gName, tYes]
        refine iteT ?_
        exact ⟨_, rfl, _, rfl, u, x, b, c, rfl, hbx.same (S4.trans S), hc.same S, bools_take (lap b) ec, S, _, rfl⟩
    · rintro σ H2 ⟨o1, o2, rfl, S2, no⟩
      refine qF ?_ _ S2
      rw [List.pairwise_iff_getElem]
      intro i j hi hj hij
      refine no i bs[i] (by rw [lu]; exact hi) (List.getElem?_eq_getElem hi) _ ?_
      rw [List.mem_iff_getElem]
      exact ⟨j - (i + 1), by rw [List.length_drop]; omega, by rw [List.getElem_drop]; congr 1; omega⟩
end
end JC
set_option Elab.async false
set_option linter.all false
set_option maxRecDepth 100000
set_option maxHeartbeats 4000000
namespace JC
open PySem L2 Til
theorem sum_le {bs : List Bx} {M : Int} (h : ∀ b ∈ bs, 0 ≤ area b ∧ area b ≤ M) : ∀ k, 0 ≤ ((bs.map area).take k).sum ∧ ((bs.map area).take k).sum ≤ bs.length * M := by
  induction bs with
  | nil => intro k; simp
  | cons b bs ih =>
    intro k
    have hb := h b List.mem_cons_self
    have ih := ih fun c hc => h c (List.mem_cons_of_mem _ hc)
    have e : (((b :: bs).length : Nat) : Int) * M = bs.length * M + M := by
      rw [List.length_cons, Int.natCast_add, Int.add_mul]
      simp
    rw [e]
    cases k with
    | zero =>
      have := (ih 0).2
      simp only [List.take_zero, List.sum_nil] at this ⊢
      omega
    | succ k =>
      have := ih k
      rw [List.map_cons, List.take_succ_cons, List.sum_cons]
      omega
theorem area_bound {b : Bx} {W G : Int} (h1 : b.l < b.r ∧ b.t < b.b) (h2 : 0 ≤ b.l ∧ b.r ≤ W ∧ 0 ≤ b.t ∧ b.b ≤ G) (hW : W ≤ 2 ^ 28) (hG : G ≤ 2 ^ 28) : 0 ≤ area b ∧ area b ≤ 2 ^ 56 := by
  have a1 : 0 ≤ b.r - b.l := by omega
  have a2 : b.r - b.l ≤ 2 ^ 28 := by omega
  have a3 : 0 ≤ b.b - b.t := by omega
  have a4 : b.b - b.t ≤ 2 ^ 28 := by omega
  unfold area
  refine ⟨Int.mul_nonneg a1 a3, ?_⟩
  have := Int.mul_le_mul a2 a4 a3 (by decide)
  exact this
section
variable {P : Program} {w : World} {K : PySem.W.Frag} {mg : Str → Option Value} {base : Heap}
theorem scFill : FnScope ["boxes", "wide", "high"] ["boxes", "wide", "high"] (defScope sFill) := ⟨rfl, rfl, rfl, by decide +kernel, rfl, by decide +kernel, by decide +kernel⟩
theorem ok_fill {f fW fA fR : Addr} {fd fdW fdA fdR : FuncData} (F : Fun K "fill" "fill" sFill f fd) (Z : Np K mg) (Wi : Callee P w K mg base CX0 1 "is_within" fW fdW ["box", "wide", "high"] spWithin) (An : Callee P w K mg base CX0 2 "any_overlap" fA fdA ["boxes"] spAny)
    (Ar : Callee P w K mg base CX0 1 "area" fR fdR ["box"] spArea) : FnOk P w K mg base CX0 3 f fd ["boxes", "wide", "high"] spFill := by
  obtain ⟨gLEFT, gTOP, gRIGHT, gBELOW, gMOST_BOXES, ti, tint, tbool, ttup, tlist, tl, tall, tany, tsum, ts, te, ib⟩ := Z
  refine F.ok scFill (fun vs H Q E h => ?_) (fun cdv A outer s H vs Q E hr h => ?_)
  · obtain ⟨l, us, bs, W, G, rfl, _⟩ := h
    rfl
  · obtain ⟨l, us, bs, W, G, rfl, hl, hB, hlen, wf, hW1, hW, hG1, hG, qT, qF⟩ := h
    refine ⟨_, (pss_cons (ps_if (PW.pt (pw_or (pt_not (pt_val (pe_callB (call_allL rfl) (by rfl) tall PyProof.Rows.boot_all (pa_cons (pe_comp (Nc := ["box", "wide", "high"]) (ix := [none, some 1, some 2]) rfl rfl (by refine' pi_list ?zz; case zz => exact (pv 0)) (fun _ _ _ _ _ => (pg_name (i := 0) (by show (["box", "wide", "high"] : List Str).Nodup; decide +kernel) rfl (Or.inl rfl))) (fun _ _ _ _ _ => pts_nil) (fun _ _ _ _ _ => (pe_call Wi.ok (hr.mono (by decide)) rfl Wi.bound Wi.kp Wi.bd .nil pass0 (pa_cons (pv 0) (pa_cons (pv 1) (pa_cons (pv 2) pa_nil)))))) pa_nil)))) (pw_or1 (pt_val (pe_call An.ok hr rfl An.bound An.kp An.bd .nil pass0 (pa_cons (pv 0) pa_nil))))))
      (pss_one (ps_ret pe_bl))
      pss_nil)
      (pss_one (ps_ret (pe_cmpR op_eq (pe_callB (call_sumL rfl) (by rfl) tsum PyProof.Rows.boot_sum (pa_cons (pe_comp (Nc := ["box"]) (ix := [none]) rfl rfl (by refine' pi_list ?zz; case zz => exact (pv 0)) (fun _ _ _ _ _ => (pg_name (i := 0) (by show (["box"] : List Str).Nodup; decide +kernel) rfl (Or.inl rfl))) (fun _ _ _ _ _ => pts_nil) (fun _ _ _ _ _ => (pe_call Ar.ok (hr.mono (by decide)) rfl Ar.bound Ar.kp Ar.bd .nil pass0 (pa_cons (pv 0) pa_nil)))) pa_nil)) (pe_op op_mul (pv 1) (pv 2)) (nomark _))))), ?_⟩
    have lu := hB.len
    refine ⟨_, rfl, l, rfl, ⟨_, SqL.of hl⟩, cmp_list (K := K) (a := l) (xs := us) (fun i ys σ H' => ys = (bs.take i).map (fun b => V.bl (withinB b W G)) ∧ Same H H' ∧ ∃ o, σ = [o, some (.int W), some (.int G)])
      ⟨rfl, Same.refl _, none, rfl⟩ (fun i ys σ H' hi ⟨e, S, _⟩ => ⟨by rw [e, List.length_map, List.length_take]; exact Nat.le_trans (show _ ≤ 1000 by omega) (by decide), SqL.of (S _ _ hl)⟩) ?_ ?_⟩
    · rintro ys σ H' ⟨e, S, _⟩ la nl
      rw [lu, List.take_length] at e
      subst e
      have S2 := S.trans (same_new (o := .lst (bs.map fun b => V.bl (withinB b W G))) nl)
      refine ⟨la, bs.map (fun b => withinB b W G), rfl, SqL.of (by rw [upd_same, List.map_map]; rfl), ?_⟩
      rw [List.all_map]
      generalize upd H' la (.lst (bs.map fun b => V.bl (withinB b W G))) = H2 at S2
      have wi : ∀ {b : Bx}, withinB b W G = true ↔ 0 ≤ b.l ∧ b.r ≤ W ∧ 0 ≤ b.t ∧ b.b ≤ G := fun {b} => by
        unfold withinB
        simp only [Bool.and_eq_true, decide_eq_true_eq]
      refine ⟨_, rfl, ?_⟩
      cases hall : bs.all (id ∘ fun b => withinB b W G) with
      | false =>
        refine iteT ?_
        refine qF (fun z => ?_) _ S2
        have : bs.all (id ∘ fun b => withinB b W G) = true := List.all_eq_true.mpr fun b hb => wi.mpr (z.1 b hb)
        rw [hall] at this
        cases this
      | true =>
        have hin : ∀ b ∈ bs, 0 ≤ b.l ∧ b.r ≤ W ∧ 0 ≤ b.t ∧ b.b ≤ G := fun b hb => wi.mp (List.all_eq_true.mp hall b hb)
        refine iteF ?_
        refine ⟨_, rfl, l, us, bs, rfl, S2 _ _ hl, hB.same S2, by omega, fun pw H3 S3 => ⟨_, rfl, iteF ?_⟩, fun pw H3 S3 => ⟨_, rfl, iteT (qF (fun z => pw z.2.1) _ (S2.trans S3))⟩⟩
        have S23 := S2.trans S3
        have ab : ∀ b ∈ bs, 0 ≤ area b ∧ area b ≤ 2 ^ 56 := fun b hb => area_bound (wf b hb) (hin b hb) hW hG
        refine ⟨_, rfl, l, rfl, ⟨_, SqL.of (S23 _ _ hl)⟩, cmp_list (K := K) (a := l) (xs := us) (fun i ys σ H' => ys = (bs.take i).map (fun b => V.int (area b)) ∧ Same H3 H' ∧ ∃ o, σ = [o])
          ⟨rfl, Same.refl _, none, rfl⟩ (fun i ys σ H' hi ⟨e, S, _⟩ => ⟨by rw [e, List.length_map, List.length_take]; exact Nat.le_trans (show _ ≤ 1000 by omega) (by decide), SqL.of (S _ _ (S23 _ _ hl))⟩) ?_ ?_⟩
        · rintro ys σ H' ⟨e, S, _⟩ lb nb
          rw [lu, List.take_length] at e
          subst e
          have S5 := (S23.trans S).trans (same_new (o := .lst (bs.map fun b => V.int (area b))) nb)
          have sl := sum_le ab
          refine ⟨lb, bs.map area, rfl, SqL.of (by rw [upd_same, List.map_map]; rfl), fun z hz => ?_, fun k hk => ?_, ?_⟩
          · obtain ⟨b, hb, rfl⟩ := List.mem_map.mp hz
            have := ab b hb
            omega
          · have := sl k
            omega
          · refine ⟨_, rfl, _, rfl, _, _, rfl, rfl, .inl ⟨by omega, by omega⟩, rfl, ?_⟩
            have e : decide (V.int (bs.map area).sum = V.int (W * G)) = decide ((bs.map area).sum = W * G) := by
              rw [decide_eq_decide]
              exact ⟨fun z => V.int.inj z, fun z => by rw [z]⟩
            rw [e]
            by_cases hs : (bs.map area).sum = W * G
            · rw [decide_eq_true hs]
              exact qT ⟨hin, pw, hs⟩ _ S5
            · rw [decide_eq_false hs]
              exact qF (fun z => hs z.2.2) _ S5
        · rintro i x ys σ H' hx ⟨e, S, o, rfl⟩
          subst e
          have hil : i < bs.length := by rw [← lu]; exact (List.getElem?_eq_some_iff.mp hx).1
          have eb : bs[i]? = some bs[i] := List.getElem?_eq_getElem hil
          have mb : bs[i] ∈ bs := List.getElem_mem hil
          generalize bs[i] = b at eb mb
          obtain ⟨v, hv, hb⟩ := hB.get eb
          rw [hx] at hv
          cases hv
          dsimp only [gName, tYes]
          refine iteT ?_
          have a1 := wf b mb
          have a2 := hin b mb
          exact ⟨_, rfl, x, b, rfl, hb.same (S23.trans S), .inl ⟨by omega, by omega⟩, ints_take area eb, S, _, rfl⟩
    · rintro i x ys σ H' hx ⟨e, S, o, rfl⟩
      subst e
      have hil : i < bs.length := by rw [← lu]; exact (List.getElem?_eq_some_iff.mp hx).1
      have eb : bs[i]? = some bs[i] := List.getElem?_eq_getElem hil
      generalize bs[i] = b at eb
      obtain ⟨v, hv, hb⟩ := hB.get eb
      rw [hx] at hv
      cases hv
      dsimp only [gName, tYes]
      refine iteT ?_
      exact ⟨_, rfl, _, rfl, _, rfl, x, b, W, G, rfl, hb.same S, bools_take (fun b => withinB b W G) eb, S, _, rfl⟩
theorem scMake : FnScope ["wide", "high", "boxes"] ["wide", "high", "boxes"] (defScope sMake) := ⟨rfl, rfl, rfl, by decide +kernel, rfl, by decide +kernel, by decide +kernel⟩
theorem ok_make {f fL fB fF fT C : Addr} {fd fdL fdB fdF fdT : FuncData} (F : Fun K "make_page" "make_page" sMake f fd) (Z : Np K mg) (ex : Exc K mg "NoPage" C) (Le : Callee P w K mg base CX0 2 "is_length" fL fdL ["thing"] spLength)
    (Be : Callee P w K mg base CX0 3 "are_boxes" fB fdB ["things"] spAre) (Fi : Callee P w K mg base CX0 3 "fill" fF fdF ["boxes", "wide", "high"] spFill) (Tt : Callee P w K mg base CX0 1 "top_then_left" fT fdT ["box"] spTtl) :
    FnOk P w K mg base (CXE P w) 4 f fd ["wide", "high", "boxes"] (spMake C) := by
  obtain ⟨gLEFT, gTOP, gRIGHT, gBELOW, gMOST_BOXES, ti, tint, tbool, ttup, tlist, tl, tall, tany, tsum, ts, te, ib⟩ := Z
  refine F.okE scMake (fun vs H Q E h => ?_) (fun cdv A outer s H vs Q E hr hh h => ?_)
  · obtain ⟨l, us, bs, W, G, rfl, _⟩ := h
    rfl
  · obtain ⟨l, us, bs, W, G, rfl, hl, hB, hlen, hW, hG, q, qe⟩ := h
    refine ⟨_, (pss_cons (ps_if (PW.pt (pw_or (pt_not (pt_val (pe_call Le.ok (hr.mono (by decide)) rfl Le.bound Le.kp Le.bd .nil pass0 (pa_cons (pv 0) pa_nil)))) (pw_or1 (pt_not (pt_val (pe_call Le.ok (hr.mono (by decide)) rfl Le.bound Le.kp Le.bd .nil pass0 (pa_cons (pv 1) pa_nil)))))))
      (pss_one (ps_raise ex hh rfl (pa_cons pe_str pa_nil)))
      pss_nil)
      (pss_cons (ps_if (pt_not (pt_val (pe_call Be.ok (hr.mono (by decide)) rfl Be.bound Be.kp Be.bd .nil pass0 (pa_cons (pv 2) pa_nil))))
      (pss_one (ps_raise ex hh rfl (pa_cons pe_str pa_nil)))
      pss_nil)
      (pss_cons (ps_if (pt_not (pt_val (pe_call Fi.ok hr rfl Fi.bound Fi.kp Fi.bd .nil pass0 (pa_cons (pv 2) (pa_cons (pv 0) (pa_cons (pv 1) pa_nil))))))
      (pss_one (ps_raise ex hh rfl (pa_cons pe_str pa_nil)))
      pss_nil)
      (pss_one (ps_ret (pe_tup (pa_cons (pv 0) (pa_cons (pv 1) (pa_cons (pe_callTy call_tuple_fz rfl ttup PyProof.Rows.boot_tuple (pa_cons (pe_sortF Tt.ok Tt.bd (hr.mono (by decide)) rfl ts rfl Tt.bound (pv 2)) pa_nil)) pa_nil))))))))), ?_⟩
    have lu := hB.len
    have bad : ∀ {H' : Hp}, ¬ Page W G bs → Same H H' → ([V.str "x"].length ≤ sizeLine ∧ E (.ref C) none H') := fun n S => ⟨by show 1 ≤ sizeLine; decide, qe n _ S⟩
    refine ⟨_, rfl, W, rfl, _, rfl, ?_⟩
    refine ite2 (fun c1 => ?_) (fun c1 => ?_)
    · refine iteT ?_
      have c1 : ¬ 1 ≤ W := by simpa using c1
      exact bad (fun p => c1 p.w) (Same.refl _)
    have c1 : 1 ≤ W := by simpa using c1
    refine ⟨_, rfl, G, rfl, _, rfl, ?_⟩
    refine ite2 (fun c2 => ?_) (fun c2 => ?_)
    · have c2 : ¬ 1 ≤ G := by simpa using c2
      exact bad (fun p => c2 p.g) (Same.refl _)
    have c2 : 1 ≤ G := by simpa using c2
    refine ⟨_, rfl, l, us, bs, rfl, hl, hB, hlen, fun H1 S1 => ⟨_, rfl, ?_⟩⟩
    refine ite2 (fun c3 => ?_) (fun c3 => ?_)
    · refine bad (fun p => ?_) S1
      have : (decide (1 ≤ bs.length) && decide (bs.length ≤ 24) && bs.all boxB) = true := by
        rw [decide_eq_true p.n1, decide_eq_true p.n24, List.all_eq_true.mpr fun b hb => by unfold boxB; rw [decide_eq_true (p.wf b hb).1, decide_eq_true (p.wf b hb).2]; rfl]
        rfl
      rw [this] at c3
      cases c3
    have c3 : (decide (1 ≤ bs.length) && decide (bs.length ≤ 24) && bs.all boxB) = true := by
      revert c3
      cases (decide (1 ≤ bs.length) && decide (bs.length ≤ 24) && bs.all boxB)
      · intro z; exact absurd rfl z
      · intro _; rfl
    rw [Bool.and_eq_true, Bool.and_eq_true, decide_eq_true_eq, decide_eq_true_eq, List.all_eq_true] at c3
    have wf : ∀ b ∈ bs, b.l < b.r ∧ b.t < b.b := fun b hb => by
      have := c3.2 b hb
      unfold boxB at this
      rw [Bool.and_eq_true, decide_eq_true_eq, decide_eq_true_eq] at this
      exact this
    refine ⟨_, rfl, _, rfl, _, rfl, l, us, bs, W, G, rfl, S1 _ _ hl, hB.same S1, c3.1.2, wf, c1, hW, c2, hG, fun fl H2 S2 => ⟨_, rfl, iteF ?_⟩, fun nf H2 S2 => ⟨_, rfl, iteT (bad (fun p => nf ⟨p.within, p.apart, p.full⟩) (S1.trans S2))⟩⟩
    have pg : Page W G bs := ⟨c1, c2, c3.1.1, c3.1.2, wf, fl.1, fl.2.1, fl.2.2⟩
    have S12 := S1.trans S2
    have hB2 := hB.same S12
    refine ⟨_, rfl, _, rfl, _, rfl, l, us, bs.map (fun b => (b.t, b.l)), W + 1, rfl, SqL.of (S12 _ _ hl), by omega, by omega, by rw [List.length_map]; omega, fun z hz => ?_, fun i x z H' R hx hz S' k => ?_, fun D p H' S' hD po pu => ?_⟩
    · obtain ⟨b, hb, rfl⟩ := List.mem_map.mp hz
      have := fl.1 b hb
      have := wf b hb
      exact ⟨by simp only; omega, by simp only; omega⟩
    · rw [List.getElem?_map] at hz
      cases e : bs[i]? with
      | none => rw [e] at hz; cases hz
      | some b =>
        rw [e] at hz
        cases hz
        obtain ⟨v, hv, hb⟩ := hB2.get e
        rw [hx] at hv
        cases hv
        exact ⟨x, b, rfl, hb.same S', fun p H'' S'' h'' => k p H'' S'' h''⟩
    · rw [lu] at po pu
      have SD := same_new (o := .lst (p.toList.map fun i => us.getD i .non)) hD
      refine ⟨D, _, rfl, SqL.of upd_same, fun tb ob ntb oc od => ⟨by show 3 ≤ sizeLine; decide, fun pa npa => ?_⟩⟩
      have ST := same_new (o := .frz ob (.tup (p.toList.map fun i => us.getD i .non))) ntb
      have SP := same_new (o := .tup [.int W, .int G, .ref tb]) npa
      have SA := SD.trans (ST.trans SP)
      refine q pg pa (picked bxZ p bs) _ (S12.trans (S'.trans SA)) ⟨tb, _, upd_same, (TpF.new oc od).same SP, boxes_picked ((hB2.same S').same SA) po, by rw [picked_len po]; exact pg.n24⟩ (picked_perm po) (picked_sorted po (fun b hb => ?_) pu)
      have := fl.1 b hb
      have := wf b hb
      omega
end
end JC
set_option Elab.async false
set_option linter.all false
set_option maxRecDepth 100000
set_option maxHeartbeats 8000000
namespace JC
open PySem L2 Til
theorem cut_ints (ns : List Int) (lo hi : Option Int) : ∃ ms : List Int, cutV (ns.map V.int) lo hi = ms.map V.int := by
  unfold cutV
  rw [← List.map_drop, ← List.map_take]
  exact ⟨_, rfl⟩
def spMixed : Sp := fun vs H Q _ => ∃ c k : Int, vs = [.int c, .int k] ∧ 0 ≤ k ∧ k ≤ 100000 ∧ ∀ n : Int, 0 ≤ n → Q (.int n) H
def spWheel : Sp := fun vs H Q _ => ∃ (v : V) (b : Bx) (cell : Int), vs = [v, .int cell] ∧ BoxAt H v b ∧ b.l + 2 < b.r ∧ b.t + 2 < b.b ∧
  ∀ (l : Addr) (us : List V) (nb : List Bx) (H' : Hp), Same H H' → H' l = some (.lst us) → BoxesAt H' us nb → nb.length = 5 → (∀ x y, cnt nb x y = (inB b x y).toNat) → (∀ n m, Ok n m b → ∀ c ∈ nb, Ok n m c) → Q (.ref l) H'
def spHalves : Sp := fun vs H Q _ => ∃ (v : V) (b : Bx) (cell : Int) (up : Bool), vs = [v, .int cell, .bl up] ∧ BoxAt H v b ∧
  ∀ (l : Addr) (us : List V) (nb : List Bx) (H' : Hp), Same H H' → H' l = some (.lst us) → BoxesAt H' us nb → nb.length ≤ 2 → (∀ x y, cnt nb x y = (inB b x y).toNat) → (∀ n m, Ok n m b → ∀ c ∈ nb, Ok n m c) → Q (.ref l) H'
theorem eqR_true {K : PySem.W.Frag} {H : Hp} {n : Nat} {x y : V} {b : Bool} (h : EqR K H n x y b) (e : b = true) : EqR K H n x y true := e ▸ h
theorem all_true (n : Nat) : ((List.range n).all fun _ => true) = true := List.all_eq_true.mpr fun _ _ => rfl
theorem eq_empty {K : PySem.W.Frag} {H : Hp} {a b : Addr} {xs : List V} (ha : H a = some (.lst xs)) (hb : H b = some (.lst [])) : EqR K H 1 (.ref a) (.ref b) (decide (xs = [])) := by
  by_cases h : xs = []
  · subst h
    rw [decide_eq_true rfl]
    exact eqR_true (EqR.lsts (n := 0) (e := fun _ => true) (SqL.of ha) (SqL.of hb) rfl fun j hj => absurd hj (Nat.not_lt_zero _)) (all_true _)
  · rw [decide_eq_false h]
    exact EqR.lens (n := 0) (SqL.of ha) (SqL.of hb) fun z => h (List.length_eq_zero_iff.mp z)
theorem asg_lst {t : TA} {σ : St} {H : Hp} {i : Nat} {D : L2.Ends} (h : t σ H fun xs H1 => xs.length ≤ sizeLine ∧ ∀ p, H1 p = none → D.nx (σ.set i (some (.ref p))) (upd H1 p (.lst xs))) : tAsg (tLst t) (gName i) D σ H := h
theorem ret_lst {t : TA} {σ : St} {H : Hp} {D : L2.Ends} (h : t σ H fun xs H1 => xs.length ≤ sizeLine ∧ ∀ p, H1 p = none → D.rt (.ref p) (upd H1 p (.lst xs))) : tRet (tLst t) D σ H := h
section
variable {P : Program} {w : World} {K : PySem.W.Frag} {mg : Str → Option Value} {base : Heap}
theorem scMixed : FnScope ["cell", "k", "number"] ["cell", "k"] (defScope sMixed) := ⟨rfl, rfl, rfl, by decide +kernel, rfl, by decide +kernel, by decide +kernel⟩
theorem ok_mixed {f : Addr} {fd : FuncData} (F : Fun K "_law_mixed" "_law_mixed" sMixed f fd) : FnOk P w K mg base CX0 1 f fd ["cell", "k"] spMixed := by
  refine F.ok scMixed (fun vs H Q E h => ?_) (fun cdv A outer s H vs Q E hr h => ?_)
  · obtain ⟨c, k, rfl, _⟩ := h
    rfl
  · obtain ⟨c, k, rfl, k0, k1, q⟩ := h
    refine ⟨_, (pss_cons (ps_set (i := 2) scMixed.nd rfl (Or.inl rfl) (pe_op op_mod (pe_op op_add (pe_op op_add (pe_op op_mul (pe_op op_mod (pv 0) pe_int) (pe_op op_add (pe_op op_mul pe_int (pv 1)) pe_int)) (pe_op op_mul pe_int (pv 1))) pe_int) pe_int))
      (pss_one (ps_ret (pe_op op_fdiv (pe_op op_mod (pe_op op_mul (pv 2) (pv 2)) pe_int) pe_int)))), ?_⟩
    have a0 := Int.emod_nonneg c (show (2147483629 : Int) ≠ 0 by decide)
    have a1 := Int.emod_lt_of_pos c (show (0 : Int) < 2147483629 by decide)
    refine' seq_asg (v := .int ((c % 2147483629 * (2 * k + 51431) + 17 * k + 3) % 2147483587)) ?_ ?_
    · exact evl_I (evl_I0 (evl_I0 (evl_I (evl_I (evl_var rfl) evl_c (by show (0 : Int) < 2147483629; decide)) (evl_I0 (evl_I evl_c (evl_var rfl) (Or.inl ⟨by decide, by decide⟩)) evl_c) (Or.inl ⟨by omega, by omega⟩)) (evl_I evl_c (evl_var rfl) (Or.inl ⟨by decide, by decide⟩))) evl_c) evl_c (by show (0 : Int) < 2147483587; decide)
    generalize (c % 2147483629 * (2 * k + 51431) + 17 * k + 3) = u
    have u0 := Int.emod_nonneg u (show (2147483587 : Int) ≠ 0 by decide)
    have u1 := Int.emod_lt_of_pos u (show (0 : Int) < 2147483587 by decide)
    refine' run_ret (v := .int (u % 2147483587 * (u % 2147483587) % 2147483563 / 7)) ?_ ?_
    · exact evl_I (evl_I (evl_I (evl_var rfl) (evl_var rfl) (Or.inl ⟨by omega, by omega⟩)) evl_c (by show (0 : Int) < 2147483563; decide)) evl_c ⟨by decide, by decide⟩
    exact q _ (Int.ediv_nonneg (Int.emod_nonneg _ (by decide)) (by decide))
theorem scWheel : FnScope ["box", "cell", "left", "top", "right", "below", "x", "far", "y", "deep", "found"] ["box", "cell"] (defScope sWheel) := ⟨rfl, rfl, rfl, by decide +kernel, rfl, by decide +kernel, by decide +kernel⟩
theorem ok_wheel {f fT : Addr} {fd dT : FuncData} (F : Fun K "_law_wheel" "_law_wheel" sWheel f fd) (Mx : Callee P w K mg base CX0 1 "_law_mixed" fT dT ["cell", "k"] spMixed) : FnOk P w K mg base CX0 2 f fd ["box", "cell"] spWheel := by
  refine F.ok scWheel (fun vs H Q E h => ?_) (fun cdv A outer s H vs Q E hr h => ?_)
  · obtain ⟨v, b, cell, rfl, _⟩ := h
    rfl
  · obtain ⟨v, b, cell, rfl, ⟨p, rfl, hp⟩, hw, hh, q⟩ := h
    refine ⟨_, (pss_cons (ps_asg (pv 0) (pg_tup rfl (pgs_cons (pg_name (i := 2) scWheel.nd rfl (Or.inl rfl)) (pgs_cons (pg_name (i := 3) scWheel.nd rfl (Or.inl rfl)) (pgs_cons (pg_name (i := 4) scWheel.nd rfl (Or.inl rfl)) (pgs_cons (pg_name (i := 5) scWheel.nd rfl (Or.inl rfl)) pgs_nil))))))
      (pss_cons (ps_set (i := 6) scWheel.nd rfl (Or.inl rfl) (pe_op op_add (pe_op op_add (pv 2) pe_int) (pe_op op_mod (pe_call Mx.ok hr rfl Mx.bound Mx.kp Mx.bd .nil pass0 (pa_cons (pv 1) (pa_cons pe_int pa_nil))) (pe_op op_sub (pe_op op_sub (pv 4) (pv 2)) pe_int))))
      (pss_cons (ps_set (i := 7) scWheel.nd rfl (Or.inl rfl) (pe_op op_add (pe_op op_add (pv 6) pe_int) (pe_op op_mod (pe_call Mx.ok hr rfl Mx.bound Mx.kp Mx.bd .nil pass0 (pa_cons (pv 1) (pa_cons pe_int pa_nil))) (pe_op op_sub (pe_op op_sub (pv 4) (pv 6)) pe_int))))
      (pss_cons (ps_set (i := 8) scWheel.nd rfl (Or.inl rfl) (pe_op op_add (pe_op op_add (pv 3) pe_int) (pe_op op_mod (pe_call Mx.ok hr rfl Mx.bound Mx.kp Mx.bd .nil pass0 (pa_cons (pv 1) (pa_cons pe_int pa_nil))) (pe_op op_sub (pe_op op_sub (pv 5) (pv 3)) pe_int))))
      (pss_cons (ps_set (i := 9) scWheel.nd rfl (Or.inl rfl) (pe_op op_add (pe_op op_add (pv 8) pe_int) (pe_op op_mod (pe_call Mx.ok hr rfl Mx.bound Mx.kp Mx.bd .nil pass0 (pa_cons (pv 1) (pa_cons pe_int pa_nil))) (pe_op op_sub (pe_op op_sub (pv 5) (pv 8)) pe_int))))
      (pss_cons (ps_if (pt_cmpR op_eq (pe_op op_mod (pe_call Mx.ok hr rfl Mx.bound Mx.kp Mx.bd .nil pass0 (pa_cons (pv 1) (pa_cons pe_int pa_nil))) pe_int) pe_int (nomark _))
      (pss_one (ps_set (i := 10) scWheel.nd rfl (Or.inl rfl) (pe_lst (pa_cons (pe_tup (pa_cons (pv 2) (pa_cons (pv 3) (pa_cons (pv 7) (pa_cons (pv 8) pa_nil))))) (pa_cons (pe_tup (pa_cons (pv 7) (pa_cons (pv 3) (pa_cons (pv 4) (pa_cons (pv 9) pa_nil))))) (pa_cons (pe_tup (pa_cons (pv 6) (pa_cons (pv 9) (pa_cons (pv 4) (pa_cons (pv 5) pa_nil))))) (pa_cons (pe_tup (pa_cons (pv 2) (pa_cons (pv 8) (pa_cons (pv 6) (pa_cons (pv 5) pa_nil))))) pa_nil)))))))
      (pss_one (ps_set (i := 10) scWheel.nd rfl (Or.inl rfl) (pe_lst (pa_cons (pe_tup (pa_cons (pv 2) (pa_cons (pv 3) (pa_cons (pv 6) (pa_cons (pv 9) pa_nil))))) (pa_cons (pe_tup (pa_cons (pv 2) (pa_cons (pv 9) (pa_cons (pv 7) (pa_cons (pv 5) pa_nil))))) (pa_cons (pe_tup (pa_cons (pv 7) (pa_cons (pv 8) (pa_cons (pv 4) (pa_cons (pv 5) pa_nil))))) (pa_cons (pe_tup (pa_cons (pv 6) (pa_cons (pv 3) (pa_cons (pv 4) (pa_cons (pv 8) pa_nil))))) pa_nil))))))))
      (pss_one (ps_ret (pe_op op_cat (pv 10) (pe_lst (pa_cons (pe_tup (pa_cons (pv 6) (pa_cons (pv 8) (pa_cons (pv 7) (pa_cons (pv 9) pa_nil))))) pa_nil))))))))))), ?_⟩
    refine seq_unp4 (evl_var rfl) (SqT.of hp) ?_
    refine ⟨_, rfl, _, _, rfl, rfl, _, rfl, cell, 5, rfl, by decide, by decide, fun n1 a1 => ⟨_, rfl, _, rfl, _, _, rfl, rfl, _, _, rfl, rfl, _, _, rfl, rfl, by omega, _, _, rfl, rfl, ?_⟩⟩
    have r1 := Int.emod_nonneg n1 (show b.r - b.l - 2 ≠ 0 by omega)
    have s1 := Int.emod_lt_of_pos n1 (show 0 < b.r - b.l - 2 by omega)
    generalize n1 % (b.r - b.l - 2) = m1 at r1 s1 ⊢
    obtain ⟨x, hx⟩ : ∃ x, x = b.l + 1 + m1 := ⟨_, rfl⟩
    dsimp only
    rw [← hx]
    refine ⟨_, rfl, _, _, rfl, rfl, _, rfl, cell, 6, rfl, by decide, by decide, fun n2 a2 => ⟨_, rfl, _, rfl, _, _, rfl, rfl, _, _, rfl, rfl, _, _, rfl, rfl, by omega, _, _, rfl, rfl, ?_⟩⟩
    have r2 := Int.emod_nonneg n2 (show b.r - x - 1 ≠ 0 by omega)
    have s2 := Int.emod_lt_of_pos n2 (show 0 < b.r - x - 1 by omega)
    generalize n2 % (b.r - x - 1) = m2 at r2 s2 ⊢
    obtain ⟨u, hu⟩ : ∃ u, u = x + 1 + m2 := ⟨_, rfl⟩
    dsimp only
    rw [← hu]
    refine ⟨_, rfl, _, _, rfl, rfl, _, rfl, cell, 7, rfl, by decide, by decide, fun n3 a3 => ⟨_, rfl, _, rfl, _, _, rfl, rfl, _, _, rfl, rfl, _, _, rfl, rfl, by omega, _, _, rfl, rfl, ?_⟩⟩
    have r3 := Int.emod_nonneg n3 (show b.b - b.t - 2 ≠ 0 by omega)
    have s3 := Int.emod_lt_of_pos n3 (show 0 < b.b - b.t - 2 by omega)
    generalize n3 % (b.b - b.t - 2) = m3 at r3 s3 ⊢
    obtain ⟨y, hy⟩ : ∃ y, y = b.t + 1 + m3 := ⟨_, rfl⟩
    dsimp only
    rw [← hy]
    refine ⟨_, rfl, _, _, rfl, rfl, _, rfl, cell, 8, rfl, by decide, by decide, fun n4 a4 => ⟨_, rfl, _, rfl, _, _, rfl, rfl, _, _, rfl, rfl, _, _, rfl, rfl, by omega, _, _, rfl, rfl, ?_⟩⟩
    have r4 := Int.emod_nonneg n4 (show b.b - y - 1 ≠ 0 by omega)
    have s4 := Int.emod_lt_of_pos n4 (show 0 < b.b - y - 1 by omega)
    generalize n4 % (b.b - y - 1) = m4 at r4 s4 ⊢
    obtain ⟨v, hv⟩ : ∃ v, v = y + 1 + m4 := ⟨_, rfl⟩
    dsimp only
    rw [← hv]
    refine seq_via (G := fun σ H6 => ∃ (l : Addr) (us : List V) (nb : List Bx), σ[6]? = some (some (.int x)) ∧ σ[7]? = some (some (.int u)) ∧ σ[8]? = some (some (.int y)) ∧ σ[9]? = some (some (.int v)) ∧ σ[10]? = some (some (.ref l)) ∧ Same H H6 ∧ H6 l = some (.lst us) ∧ BoxesAt H6 us nb ∧ nb.length = 4 ∧ (∀ p q, cnt (nb ++ [⟨x, y, u, v⟩]) p q = (inB b p q).toNat) ∧ (∀ n m, Ok n m b → ∀ c ∈ nb ++ [⟨x, y, u, v⟩], Ok n m c)) (fun N k => ?_) ?_
    · refine ⟨_, rfl, cell, 9, rfl, by decide, by decide, fun n5 a5 => ⟨_, _, rfl, rfl, by show (0 : Int) < 2; decide, rfl, _, rfl, ?_⟩⟩
      refine ite2 (fun _ => ?_) (fun _ => ?_)
      · refine asg_lst ?_
        refine cons_tup4 (evl_var rfl) (evl_var rfl) (evl_var rfl) (evl_var rfl) fun p2 m2 => ?_
        refine cons_tup4 (evl_var rfl) (evl_var rfl) (evl_var rfl) (evl_var rfl) fun p3 m3 => ?_
        refine cons_tup4 (evl_var rfl) (evl_var rfl) (evl_var rfl) (evl_var rfl) fun p4 m4 => ?_
        refine cons_tup4 (evl_var rfl) (evl_var rfl) (evl_var rfl) (evl_var rfl) fun p5 m5 => ?_
        refine ⟨by show 4 ≤ sizeLine; decide, fun l2 ml2 => ?_⟩
        have T2 := same_new (o := .tup [.int b.l, .int b.t, .int u, .int y]) m2
        have T3 := same_new (o := .tup [.int u, .int b.t, .int b.r, .int v]) m3
        have T4 := same_new (o := .tup [.int x, .int v, .int b.r, .int b.b]) m4
        have T5 := same_new (o := .tup [.int b.l, .int y, .int x, .int b.b]) m5
        have T6 := same_new (o := .lst [.ref p2, .ref p3, .ref p4, .ref p5]) ml2
        refine k _ _ ⟨l2, _, [⟨b.l, b.t, u, y⟩, ⟨u, b.t, b.r, v⟩, ⟨x, v, b.r, b.b⟩, ⟨b.l, y, x, b.b⟩], rfl, rfl, rfl, rfl, rfl, T2.trans (T3.trans (T4.trans (T5.trans T6))), upd_same,
          .cons ⟨p2, rfl, (T3.trans (T4.trans (T5.trans T6))) _ _ upd_same⟩ (.cons ⟨p3, rfl, (T4.trans (T5.trans T6)) _ _ upd_same⟩ (.cons ⟨p4, rfl, (T5.trans T6) _ _ upd_same⟩ (.cons ⟨p5, rfl, T6 _ _ upd_same⟩ .nil))), rfl, ?_, ?_⟩
        · exact part_wheelA (l := b.l) (t := b.t) (r := b.r) (b := b.b) (x := x) (y := y) (u := u) (v := v) (by omega) (by omega) (by omega) (by omega) (by omega) (by omega)
        · exact fun n m o => ok_wheelA (x := x) (y := y) (u := u) (v := v) o (by omega) (by omega) (by omega) (by omega) (by omega) (by omega)
      · refine asg_lst ?_
        refine cons_tup4 (evl_var rfl) (evl_var rfl) (evl_var rfl) (evl_var rfl) fun p2 m2 => ?_
        refine cons_tup4 (evl_var rfl) (evl_var rfl) (evl_var rfl) (evl_var rfl) fun p3 m3 => ?_
        refine cons_tup4 (evl_var rfl) (evl_var rfl) (evl_var rfl) (evl_var rfl) fun p4 m4 => ?_
        refine cons_tup4 (evl_var rfl) (evl_var rfl) (evl_var rfl) (evl_var rfl) fun p5 m5 => ?_
        refine ⟨by show 4 ≤ sizeLine; decide, fun l2 ml2 => ?_⟩
        have T2 := same_new (o := .tup [.int b.l, .int b.t, .int x, .int v]) m2
        have T3 := same_new (o := .tup [.int b.l, .int v, .int u, .int b.b]) m3
        have T4 := same_new (o := .tup [.int u, .int y, .int b.r, .int b.b]) m4
        have T5 := same_new (o := .tup [.int x, .int b.t, .int b.r, .int y]) m5
        have T6 := same_new (o := .lst [.ref p2, .ref p3, .ref p4, .ref p5]) ml2
        refine k _ _ ⟨l2, _, [⟨b.l, b.t, x, v⟩, ⟨b.l, v, u, b.b⟩, ⟨u, y, b.r, b.b⟩, ⟨x, b.t, b.r, y⟩], rfl, rfl, rfl, rfl, rfl, T2.trans (T3.trans (T4.trans (T5.trans T6))), upd_same,
          .cons ⟨p2, rfl, (T3.trans (T4.trans (T5.trans T6))) _ _ upd_same⟩ (.cons ⟨p3, rfl, (T4.trans (T5.trans T6)) _ _ upd_same⟩ (.cons ⟨p4, rfl, (T5.trans T6) _ _ upd_same⟩ (.cons ⟨p5, rfl, T6 _ _ upd_same⟩ .nil))), rfl, fun a c => ?_, fun n m o c hc => ?_⟩
        · have z := part_wheelB (l := b.l) (t := b.t) (r := b.r) (b := b.b) (x := x) (y := y) (u := u) (v := v) (by omega) (by omega) (by omega) (by omega) (by omega) (by omega) a c
          unfold wheelB at z
          simp only [List.cons_append, List.nil_append, cnt_cons, cnt_nil] at z ⊢
          have z : _ = (inB b a c).toNat := z
          rw [← z]
          ac_rfl
        · refine ok_wheelB (x := x) (y := y) (u := u) (v := v) o (by omega) (by omega) (by omega) (by omega) (by omega) (by omega) c ?_
          unfold wheelB
          simp only [List.cons_append, List.nil_append, List.mem_cons, List.not_mem_nil, or_false] at hc ⊢
          rcases hc with h | h | h | h | h <;> simp [h]
    · rintro σ H6 ⟨l, us, nb, e6, e7, e8, e9, e10, S6, hl, hB, l5, hc, hok⟩
      refine ⟨.ref l, e10, ?_⟩
      refine cons_tup4 (evl_var e6) (evl_var e8) (evl_var e7) (evl_var e9) fun p2 m2 => ?_
      refine ⟨by show 1 ≤ sizeLine; decide, fun l2 ml2 => ?_⟩
      have T2 := same_new (o := .tup [.int x, .int y, .int u, .int v]) m2
      have T3 := same_new (o := .lst [.ref p2]) ml2
      have lu := hB.len
      refine ⟨l, l2, _, _, rfl, rfl, (T2.trans T3) _ _ hl, upd_same, Nat.le_trans (show _ ≤ 100 by rw [List.length_singleton]; omega) (by decide), fun l3 ml3 => ?_⟩
      have T4 := same_new (o := .lst (us ++ [.ref p2])) ml3
      exact q l3 _ (nb ++ [⟨x, y, u, v⟩]) _ (S6.trans (T2.trans (T3.trans T4))) upd_same (Paired.snoc (hB.same (T2.trans (T3.trans T4))) ⟨p2, rfl, (T3.trans T4) _ _ upd_same⟩) (by rw [List.length_append, l5]; rfl) hc hok
theorem scHalves : FnScope ["box", "cell", "upright", "left", "top", "right", "below", "x", "y"] ["box", "cell", "upright"] (defScope sHalves) := ⟨rfl, rfl, rfl, by decide +kernel, rfl, by decide +kernel, by decide +kernel⟩
theorem ok_halves {f fT : Addr} {fd dT : FuncData} (F : Fun K "_law_halves" "_law_halves" sHalves f fd) (Mx : Callee P w K mg base CX0 1 "_law_mixed" fT dT ["cell", "k"] spMixed) : FnOk P w K mg base CX0 2 f fd ["box", "cell", "upright"] spHalves := by
  refine F.ok scHalves (fun vs H Q E h => ?_) (fun cdv A outer s H vs Q E hr h => ?_)
  · obtain ⟨v, b, cell, up, rfl, _⟩ := h
    rfl
  · obtain ⟨v, b, cell, up, rfl, ⟨p, rfl, hp⟩, q⟩ := h
    refine ⟨_, (pss_cons (ps_asg (pv 0) (pg_tup rfl (pgs_cons (pg_name (i := 3) scHalves.nd rfl (Or.inl rfl)) (pgs_cons (pg_name (i := 4) scHalves.nd rfl (Or.inl rfl)) (pgs_cons (pg_name (i := 5) scHalves.nd rfl (Or.inl rfl)) (pgs_cons (pg_name (i := 6) scHalves.nd rfl (Or.inl rfl)) pgs_nil))))))
      (pss_cons (ps_if (PW.pt (pw_and (pt_val (pv 2)) (pw_and1 (pt_cmpR op_gt (pe_op op_sub (pv 5) (pv 3)) pe_int (nomark _)))))
      (pss_cons (ps_set (i := 7) scHalves.nd rfl (Or.inl rfl) (pe_op op_add (pe_op op_add (pv 3) pe_int) (pe_op op_mod (pe_call Mx.ok hr rfl Mx.bound Mx.kp Mx.bd .nil pass0 (pa_cons (pv 1) (pa_cons pe_int pa_nil))) (pe_op op_sub (pe_op op_sub (pv 5) (pv 3)) pe_int))))
        (pss_one (ps_ret (pe_lst (pa_cons (pe_tup (pa_cons (pv 3) (pa_cons (pv 4) (pa_cons (pv 7) (pa_cons (pv 6) pa_nil))))) (pa_cons (pe_tup (pa_cons (pv 7) (pa_cons (pv 4) (pa_cons (pv 5) (pa_cons (pv 6) pa_nil))))) pa_nil))))))
      pss_nil)
      (pss_cons (ps_if (PW.pt (pw_and (pt_not (pt_val (pv 2))) (pw_and1 (pt_cmpR op_gt (pe_op op_sub (pv 6) (pv 4)) pe_int (nomark _)))))
      (pss_cons (ps_set (i := 8) scHalves.nd rfl (Or.inl rfl) (pe_op op_add (pe_op op_add (pv 4) pe_int) (pe_op op_mod (pe_call Mx.ok hr rfl Mx.bound Mx.kp Mx.bd .nil pass0 (pa_cons (pv 1) (pa_cons pe_int pa_nil))) (pe_op op_sub (pe_op op_sub (pv 6) (pv 4)) pe_int))))
        (pss_one (ps_ret (pe_lst (pa_cons (pe_tup (pa_cons (pv 3) (pa_cons (pv 4) (pa_cons (pv 5) (pa_cons (pv 8) pa_nil))))) (pa_cons (pe_tup (pa_cons (pv 3) (pa_cons (pv 8) (pa_cons (pv 5) (pa_cons (pv 6) pa_nil))))) pa_nil))))))
      pss_nil)
      (pss_one (ps_ret (pe_lst (pa_cons (pv 0) pa_nil))))))), ?_⟩
    refine seq_unp4 (evl_var rfl) (SqT.of hp) ?_
    have eu : Tst (tTest (tVar 2)) [some (.ref p), some (.int cell), some (.bl up), some (.int b.l), some (.int b.t), some (.int b.r), some (.int b.b), none, none] H (up = true) := tst_of (by
      have e : decide (up = true) = up := by cases up <;> rfl
      rw [e]
      exact evl_var rfl)
    refine seq_if (p := up = true ∧ 1 < b.r - b.l) (tst_and eu (tst_of (by exact evl_I0 (evl_I0 (evl_var rfl) (evl_var rfl)) evl_c))) (fun c1 => ?_) (fun c1 => ?_)
    · refine ⟨_, rfl, _, _, rfl, rfl, _, rfl, cell, 5, rfl, by decide, by decide, fun n1 a1 => ⟨_, rfl, _, rfl, _, _, rfl, rfl, _, _, rfl, rfl, _, _, rfl, rfl, by omega, _, _, rfl, rfl, ?_⟩⟩
      have r1 := Int.emod_nonneg n1 (show b.r - b.l - 1 ≠ 0 by omega)
      have s1 := Int.emod_lt_of_pos n1 (show 0 < b.r - b.l - 1 by omega)
      generalize n1 % (b.r - b.l - 1) = m1 at r1 s1 ⊢
      obtain ⟨x, hx⟩ : ∃ x, x = b.l + 1 + m1 := ⟨_, rfl⟩
      dsimp only
      rw [← hx]
      refine ret_lst ?_
      refine cons_tup4 (evl_var rfl) (evl_var rfl) (evl_var rfl) (evl_var rfl) fun q1 m1 => ?_
      refine cons_tup4 (evl_var rfl) (evl_var rfl) (evl_var rfl) (evl_var rfl) fun q2 m2 => ?_
      refine ⟨by show 2 ≤ sizeLine; decide, fun q3 m3 => ?_⟩
      have U1 := same_new (o := .tup [.int b.l, .int b.t, .int x, .int b.b]) m1
      have U2 := same_new (o := .tup [.int x, .int b.t, .int b.r, .int b.b]) m2
      have U3 := same_new (o := .lst [.ref q1, .ref q2]) m3
      exact q q3 _ [⟨b.l, b.t, x, b.b⟩, ⟨x, b.t, b.r, b.b⟩] _ (U1.trans (U2.trans U3)) upd_same (.cons ⟨q1, rfl, (U2.trans U3) _ _ upd_same⟩ (.cons ⟨q2, rfl, U3 _ _ upd_same⟩ .nil)) (by show 2 ≤ 2; decide) (part_x (by omega) (by omega)) fun n m o => ok_part_x o (by omega) (by omega)
    refine run_next ?_
    dsimp only
    refine seq_if (p := ¬ (up = true) ∧ 1 < b.b - b.t) (tst_and (tst_not eu) (tst_of (by exact evl_I0 (evl_I0 (evl_var rfl) (evl_var rfl)) evl_c))) (fun c2 => ?_) (fun c2 => ?_)
    · refine ⟨_, rfl, _, _, rfl, rfl, _, rfl, cell, 5, rfl, by decide, by decide, fun n1 a1 => ⟨_, rfl, _, rfl, _, _, rfl, rfl, _, _, rfl, rfl, _, _, rfl, rfl, by omega, _, _, rfl, rfl, ?_⟩⟩
      have r1 := Int.emod_nonneg n1 (show b.b - b.t - 1 ≠ 0 by omega)
      have s1 := Int.emod_lt_of_pos n1 (show 0 < b.b - b.t - 1 by omega)
      generalize n1 % (b.b - b.t - 1) = m1 at r1 s1 ⊢
      obtain ⟨y, hy⟩ : ∃ y, y = b.t + 1 + m1 := ⟨_, rfl⟩
      dsimp only
      rw [← hy]
      refine ret_lst ?_
      refine cons_tup4 (evl_var rfl) (evl_var rfl) (evl_var rfl) (evl_var rfl) fun q1 m1 => ?_
      refine cons_tup4 (evl_var rfl) (evl_var rfl) (evl_var rfl) (evl_var rfl) fun q2 m2 => ?_
      refine ⟨by show 2 ≤ sizeLine; decide, fun q3 m3 => ?_⟩
      have U1 := same_new (o := .tup [.int b.l, .int b.t, .int b.r, .int y]) m1
      have U2 := same_new (o := .tup [.int b.l, .int y, .int b.r, .int b.b]) m2
      have U3 := same_new (o := .lst [.ref q1, .ref q2]) m3
      exact q q3 _ [⟨b.l, b.t, b.r, y⟩, ⟨b.l, y, b.r, b.b⟩] _ (U1.trans (U2.trans U3)) upd_same (.cons ⟨q1, rfl, (U2.trans U3) _ _ upd_same⟩ (.cons ⟨q2, rfl, U3 _ _ upd_same⟩ .nil)) (by show 2 ≤ 2; decide) (part_y (by omega) (by omega)) fun n m o => ok_part_y o (by omega) (by omega)
    refine run_next ?_
    dsimp only
    refine ⟨_, rfl, by show 1 ≤ sizeLine; decide, fun q3 m3 => ?_⟩
    have U3 := same_new (o := .lst [.ref p]) m3
    refine q q3 _ [b] _ U3 upd_same (.cons ⟨p, rfl, U3 _ _ hp⟩ .nil) (by show 1 ≤ 2; decide) (fun x y => ?_) (fun n m o c hc => ?_)
    · simp only [cnt_cons, cnt_nil]
      omega
    · rw [List.mem_singleton.mp hc]
      exact o
end
end JC
set_option Elab.async false
set_option linter.all false
set_option maxRecDepth 100000
set_option maxHeartbeats 4000000
namespace JC
open PySem L2 Til
abbrev sLbx : Stmt := sLboxes
theorem tiles_perm {bs cs : List Bx} {W G : Int} (p : cs.Perm bs) (T : Tiles bs W G) : Tiles cs W G := ⟨fun c hc => T.wf c (p.mem_iff.mp hc), fun x y x1 x2 x3 x4 => by unfold cnt; rw [p.countP_eq]; exact T.one x y x1 x2 x3 x4⟩
theorem mid_boxes {H3 H4 : Hp} {us vs : List V} {bs nb : List Bx} (at_ : Nat) (h : BoxesAt H3 us bs) (S : Same H3 H4) (h' : BoxesAt H4 vs nb) : BoxesAt H4 (us.take at_ ++ vs ++ us.drop (at_ + 1)) (bs.take at_ ++ nb ++ bs.drop (at_ + 1)) :=
  BoxesAt.append (BoxesAt.append ((h.same S).take at_) h') ((h.same S).drop (at_ + 1))
theorem mid_perm {α : Type} (a b c : List α) : (a ++ b ++ c).Perm (a ++ c ++ b) := by
  rw [List.append_assoc, List.append_assoc]
  exact List.perm_append_comm.append_left a
def spLbx (K : PySem.W.Frag) : Sp := fun vs H Q _ => ∃ (a : Addr) (ns : List Int) (W G : Int), vs = [.ref a, .int W, .int G] ∧ SqL K H a (ns.map V.int) ∧ 0 < W ∧ 0 < G ∧
  ∀ (l : Addr) (us : List V) (bs : List Bx) (H' : Hp), Same H H' → H' l = some (.lst us) → BoxesAt H' us bs → Tiles bs W G → bs.length ≤ 24 → Q (.ref l) H'
def spPageOf (K : PySem.W.Frag) : Sp := fun vs H Q _ => ∃ (a : Addr) (ns : List Int), vs = [.ref a] ∧ SqL K H a (ns.map V.int) ∧
  ∀ (pg : Addr) (W G : Int) (cs : List Bx) (H' : Hp), Same H H' → PageAt H' pg W G cs → Tiles cs W G → 0 < W → 0 < G → W ≤ 100000 → Q (.ref pg) H'
section
variable {P : Program} {w : World} {K : PySem.W.Frag} {mg : Str → Option Value} {base : Heap}
theorem scLbx : FnScope ["cells", "wide", "high", "boxes", "cell", "at", "box", "way", "some"] ["cells", "wide", "high"] (defScope sLbx) := ⟨rfl, rfl, rfl, by decide +kernel, rfl, by decide +kernel, by decide +kernel⟩
theorem ok_lbx {f fM fW fH : Addr} {fd dM dW dH : FuncData} (F : Fun K "_law_boxes" "_law_boxes" sLbx f fd) (tl : mg "len" = none) (Mx : Callee P w K mg base CX0 1 "_law_mixed" fM dM ["cell", "k"] spMixed) (Wh : Callee P w K mg base CX0 2 "_law_wheel" fW dW ["box", "cell"] spWheel) (Ha : Callee P w K mg base CX0 2 "_law_halves" fH dH ["box", "cell", "upright"] spHalves) : FnOk P w K mg base CX0 3 f fd ["cells", "wide", "high"] (spLbx K) := by
  refine F.ok scLbx (fun vs H Q E h => ?_) (fun cdv A outer s H vs Q E hr h => ?_)
  · obtain ⟨a, ns, W, G, rfl, _⟩ := h
    rfl
  · obtain ⟨a, ns, W, G, rfl, hS, w0, g0, q⟩ := h
    refine ⟨_, (pss_cons (ps_set (i := 3) scLbx.nd rfl (Or.inl rfl) (pe_lst (pa_cons (pe_tup (pa_cons pe_int (pa_cons pe_int (pa_cons (pv 1) (pa_cons (pv 2) pa_nil))))) pa_nil)))
      (pss_cons (ps_for PassesOwn.never rfl (pi_list (pv 0)) (pg_name (i := 4) scLbx.nd rfl (Or.inl rfl))
      (pss_cons (ps_set (i := 5) scLbx.nd rfl (Or.inl rfl) (pe_op op_mod (pe_call Mx.ok (hr.mono (show 1 ≤ 2 by decide)) rfl Mx.bound Mx.kp Mx.bd .nil pass0 (pa_cons (pv 4) (pa_cons pe_int pa_nil))) (pe_callB call_len_seq (by rfl) tl PySem.boot_len (pa_cons (pv 3) pa_nil))))
        (pss_cons (ps_set (i := 6) scLbx.nd rfl (Or.inl rfl) (pe_ix ix_list (pv 3) (pv 5) (fun _ _ => rfl)))
        (pss_cons (ps_set (i := 7) scLbx.nd rfl (Or.inl rfl) (pe_op op_mod (pe_call Mx.ok (hr.mono (show 1 ≤ 2 by decide)) rfl Mx.bound Mx.kp Mx.bd .nil pass0 (pa_cons (pv 4) (pa_cons pe_int pa_nil))) pe_int))
        (pss_cons (ps_set (i := 8) scLbx.nd rfl (Or.inl rfl) (pe_lst (pa_cons (pv 6) pa_nil)))
        (pss_cons (ps_if (PW.pt (pw_and (pt_cmpR op_eq (pv 7) pe_int (nomark _)) (pw_and (pt_cmpR op_lt (pe_callB call_len_seq (by rfl) tl PySem.boot_len (pa_cons (pv 3) pa_nil)) pe_int (nomark _)) (pw_and (pt_cmpR op_gt (pe_op op_sub (pe_ix ix_tup (pv 6) pe_int (fun _ _ => rfl)) (pe_ix ix_tup (pv 6) pe_int (fun _ _ => rfl))) pe_int (nomark _)) (pw_and1 (pt_cmpR op_gt (pe_op op_sub (pe_ix ix_tup (pv 6) pe_int (fun _ _ => rfl)) (pe_ix ix_tup (pv 6) pe_int (fun _ _ => rfl))) pe_int (nomark _)))))))
        (pss_one (ps_set (i := 8) scLbx.nd rfl (Or.inl rfl) (pe_call Wh.ok hr rfl Wh.bound Wh.kp Wh.bd .nil pass0 (pa_cons (pv 6) (pa_cons (pv 4) pa_nil)))))
        (pss_one (ps_if (PW.pt (pw_and (pt_cmpR op_lt (pv 7) pe_int (nomark _)) (pw_and1 (pt_cmpR op_lt (pe_callB call_len_seq (by rfl) tl PySem.boot_len (pa_cons (pv 3) pa_nil)) pe_int (nomark _)))))
          (pss_one (ps_set (i := 8) scLbx.nd rfl (Or.inl rfl) (pe_call Ha.ok hr rfl Ha.bound Ha.kp Ha.bd .nil pass0 (pa_cons (pv 6) (pa_cons (pv 4) (pa_cons (pe_cmpR op_eq (pe_op op_mod (pv 7) pe_int) pe_int (nomark _)) pa_nil))))))
          pss_nil)))
        (pss_one (ps_set (i := 3) scLbx.nd rfl (Or.inl rfl) (pe_op op_cat (pe_op op_cat (pe_slice sl_list (pv 3) po_none (po_some (pv 5))) (pv 8)) (pe_slice sl_list (pv 3) (po_some (pe_op op_add (pv 5) pe_int)) po_none))))))))))
      (pss_one (ps_ret (pv 3))))), ?_⟩
    refine seq_lst ?_
    refine cons_tup4 evl_c evl_c (evl_var rfl) (evl_var rfl) fun p1 m1 => ?_
    refine ⟨by show 1 ≤ sizeLine; decide, fun l0 nl0 => ?_⟩
    have S1 := same_new (o := .tup [.int 0, .int 0, .int W, .int G]) m1
    have S2 := same_new (o := .lst [.ref p1]) nl0
    have hl0 : (upd (upd H p1 (.tup [.int 0, .int 0, .int W, .int G])) l0 (.lst [.ref p1])) l0 = some (.lst [.ref p1]) := upd_same
    have hB0 : BoxesAt (upd (upd H p1 (.tup [.int 0, .int 0, .int W, .int G])) l0 (.lst [.ref p1])) [.ref p1] [⟨0, 0, W, G⟩] := .cons ⟨p1, rfl, S2 _ _ upd_same⟩ .nil
    have S12 := S1.trans S2
    generalize upd (upd H p1 (.tup [.int 0, .int 0, .int W, .int G])) l0 (.lst [.ref p1]) = H1 at S12 hl0 hB0
    refine ⟨_, rfl, a, rfl, ⟨_, S12.seq hS⟩, ?_⟩
    refine for_list (K := K) (a := a) (xs := ns.map V.int) (fun i σ H' => ∃ (lb : Addr) (us : List V) (bs : List Bx) (o4 o5 o6 o7 o8 : Option V), σ = [some (.ref a), some (.int W), some (.int G), some (.ref lb), o4, o5, o6, o7, o8] ∧ Same H H' ∧ H' lb = some (.lst us) ∧ BoxesAt H' us bs ∧ Tiles bs W G ∧ bs.length ≤ 24)
      ⟨l0, _, _, none, none, none, none, none, rfl, S12, hl0, hB0, tiles_start w0 g0, by show 1 ≤ 24; decide⟩ (fun i σ H' _ ⟨_, _, _, _, _, _, _, _, _, S, _⟩ => S.seq hS) ?_ ?_
    · rintro i x σ H3 hi ⟨lb, us, bs, o4, o5, o6, o7, o8, rfl, S3, hlb, hB, T, h24⟩
      obtain ⟨c, rfl, _⟩ := int_at hi
      have lu := hB.len
      have lp := tiles_pos T w0 g0
      refine run_gname ?_
      refine ⟨_, rfl, c, 3, rfl, by decide, by decide, fun n a0 => ⟨_, rfl, lb, us, rfl, .inl (SqL.of hlb), _, _, rfl, rfl, by omega, ?_⟩⟩
      refine run_gname ?_
      dsimp only
      have r1 := Int.emod_nonneg n (show (us.length : Int) ≠ 0 by omega)
      have s1 := Int.emod_lt_of_pos n (show 0 < (us.length : Int) by omega)
      generalize n % (us.length : Int) = m1 at r1 s1 ⊢
      obtain ⟨i, rfl⟩ := Int.eq_ofNat_of_zero_le r1
      have hi : i < bs.length := by omega
      have eb : bs[i]? = some bs[i] := List.getElem?_eq_getElem hi
      generalize bs[i] = b at eb
      have o := T.wf b (List.mem_of_getElem? eb)
      obtain ⟨v, hv, p, rfl, hp⟩ := hB.get eb
      refine seq_asg (evl_ixL (evl_var rfl) (evl_var rfl) (SqL.of hlb) (atI_nat hv)) ?_
      refine ⟨_, rfl, c, 4, rfl, by decide, by decide, fun n2 a2 => ⟨_, _, rfl, rfl, by show (0 : Int) < 5; decide, ?_⟩⟩
      refine run_gname ?_
      dsimp only
      generalize n2 % 5 = way
      refine seq_lst ⟨_, rfl, by show 1 ≤ sizeLine; decide, fun l4 m4 => ?_⟩
      have S4 := same_new (o := .lst [.ref p]) m4
      have h4 : (upd H3 l4 (.lst [.ref p])) l4 = some (.lst [.ref p]) := upd_same
      generalize upd H3 l4 (.lst [.ref p]) = H4 at S4 h4
      have hlb4 := S4 _ _ hlb
      have hp4 := S4 _ _ hp
      have hB4 := hB.same S4
      have t := box_four hp4 K
      have S34 := S3.trans S4
      clear hB hlb hp S3 S4 m4
      refine seq_via (G := fun σ H6 => ∃ (ls : Addr) (vs : List V) (nb : List Bx), σ = [some (.ref a), some (.int W), some (.int G), some (.ref lb), some (.int c), some (.int (i : Int)), some (.ref p), some (.int way), some (.ref ls)] ∧ Same H4 H6 ∧ H6 ls = some (.lst vs) ∧ BoxesAt H6 vs nb ∧ bs.length + nb.length ≤ 25 ∧ (∀ x y, cnt nb x y = (inB b x y).toNat) ∧ (∀ n m, Ok n m b → ∀ c ∈ nb, Ok n m c)) (fun N k => ?_) ?_
      · refine tst_if (p := way = 4 ∧ ((us.length : Int) < 20 ∧ (2 < b.r - b.l ∧ 2 < b.b - b.t))) (tst_and (tst_of (by exact evl_eqI (evl_var rfl) evl_c)) (tst_and (tst_of (by exact evl_I0 (evl_lenL (evl_var rfl) (SqL.of hlb4)) evl_c)) (tst_and (tst_of (by exact evl_I0 (evl_I0 (evl_ixT (evl_var rfl) evl_c t rfl) (evl_ixT (evl_var rfl) evl_c t rfl)) evl_c)) (tst_of (by exact evl_I0 (evl_I0 (evl_ixT (evl_var rfl) evl_c t rfl) (evl_ixT (evl_var rfl) evl_c t rfl)) evl_c))))) (fun c1 => ?_) (fun c1 => ?_)
        · refine ⟨_, rfl, _, rfl, .ref p, b, c, rfl, ⟨p, rfl, hp4⟩, by omega, by omega, fun l5 us5 nb H5 S5 h5 B5 l5' c5 ok5 => ?_⟩
          exact k _ _ ⟨l5, us5, nb, rfl, S5, h5, B5, by omega, c5, ok5⟩
        · refine tst_if (p := way < 4 ∧ (us.length : Int) < 24) (tst_and (tst_of (by exact evl_I0 (evl_var rfl) evl_c)) (tst_of (by exact evl_I0 (evl_lenL (evl_var rfl) (SqL.of hlb4)) evl_c))) (fun c2 => ?_) (fun c2 => ?_)
          · refine ⟨_, rfl, _, rfl, _, rfl, _, _, rfl, rfl, by show (0 : Int) < 2; decide, rfl, .ref p, b, c, _, rfl, ⟨p, rfl, hp4⟩, fun l5 us5 nb H5 S5 h5 B5 l5' c5 ok5 => ?_⟩
            exact k _ _ ⟨l5, us5, nb, rfl, S5, h5, B5, by omega, c5, ok5⟩
          · refine run_next ?_
            dsimp only
            refine k _ _ ⟨l4, _, [b], rfl, Same.refl _, h4, .cons ⟨p, rfl, hp4⟩ .nil, by show bs.length + 1 ≤ 25; omega, fun x y => ?_, fun n m o c hc => ?_⟩
            · simp only [cnt_cons, cnt_nil]
              omega
            · rw [List.mem_singleton.mp hc]
              exact o
      · rintro σ H6 ⟨ls, vs, nb, rfl, S6, hls, hBs, l25, hc, hok⟩
        have hlb6 := S6 _ _ hlb4
        have lv := hBs.len
        have e1 : cutV us none (some (i : Int)) = us.take i := cutV_take us i (by omega)
        have e2 : cutV us (some ((i : Int) + 1)) none = us.drop (i + 1) := cutV_drop us (i + 1) (by omega)
        refine ⟨_, rfl, _, rfl, _, rfl, lb, us, rfl, SqL.of hlb6, fun p1 m1 => ?_⟩
        refine ⟨_, rfl, p1, ls, _, _, rfl, rfl, upd_same, same_new m1 _ _ hls, ?_, fun p2 m2 => ?_⟩
        · rw [e1, List.length_take]
          exact Nat.le_trans (show _ ≤ 1000 by omega) (by decide)
        rw [e1] at m2 ⊢
        have T1 := same_new (o := .lst (us.take i)) m1
        have T2 := T1.trans (same_new (o := .lst (us.take i ++ vs)) m2)
        have h2 : (upd (upd H6 p1 (.lst (us.take i))) p2 (.lst (us.take i ++ vs))) p2 = some (.lst (us.take i ++ vs)) := upd_same
        generalize upd (upd H6 p1 (.lst (us.take i))) p2 (.lst (us.take i ++ vs)) = H7 at T2 h2
        refine ⟨_, rfl, _, rfl, _, _, rfl, rfl, _, rfl, lb, us, rfl, SqL.of (T2 _ _ hlb6), fun p3 m3 => ?_⟩
        refine ⟨p2, p3, _, _, rfl, rfl, same_new m3 _ _ h2, upd_same, ?_, fun p4 m4 => ?_⟩
        · rw [e2, List.length_append, List.length_take, List.length_drop]
          exact Nat.le_trans (show _ ≤ 1000 by omega) (by decide)
        rw [e2] at m4 ⊢
        have T3 := T2.trans (same_new (o := .lst (us.drop (i + 1))) m3)
        have T4 := T3.trans (same_new (o := .lst (us.take i ++ vs ++ us.drop (i + 1))) m4)
        have TT := tiles_perm (mid_perm (bs.take i) nb (bs.drop (i + 1))) (tiles_part T eb (hok _ _ o) hc)
        refine ⟨p4, _, bs.take i ++ nb ++ bs.drop (i + 1), _, _, _, _, _, rfl, S34.trans (S6.trans T4), upd_same, mid_boxes i (hB4.same S6) T4 (hBs.same T4), TT, ?_⟩
        rw [List.length_append, List.length_append, List.length_take, List.length_drop]
        omega
    · rintro σ H3 ⟨lb, us, bs, o4, o5, o6, o7, o8, rfl, S3, hlb, hB, T, h24⟩
      exact ⟨_, rfl, q lb us bs H3 S3 hlb hB T h24⟩
end
end JC
set_option Elab.async false
set_option linter.all false
set_option maxRecDepth 100000
set_option maxHeartbeats 1000000
namespace JC
open PySem L2 Til PySem.W
def scl (m n : Int) (b : Til.Bx) : Til.Bx := ⟨b.l * m, b.t * n, b.r * m, b.b * n⟩
theorem le_scl {a x m : Int} (h : 0 < m) : a * m ≤ x ↔ a ≤ x / m := (Int.le_ediv_iff_mul_le h).symm
theorem lt_scl {a x m : Int} (h : 0 < m) : x < a * m ↔ x / m < a := (Int.ediv_lt_iff_lt_mul h).symm
theorem inB_scl {m n : Int} (hm : 0 < m) (hn : 0 < n) (b : Til.Bx) (x y : Int) : inB (scl m n b) x y = inB b (x / m) (y / n) := by
  rw [Bool.eq_iff_iff, inB_iff, inB_iff]
  show b.l * m ≤ x ∧ x < b.r * m ∧ b.t * n ≤ y ∧ y < b.b * n ↔ _
  rw [le_scl hm, lt_scl hm, le_scl hn, lt_scl hn]
theorem cnt_scl {m n : Int} (hm : 0 < m) (hn : 0 < n) (bs : List Til.Bx) (x y : Int) : cnt (bs.map (scl m n)) x y = cnt bs (x / m) (y / n) := by
  unfold cnt
  rw [List.countP_map]
  congr 1
  funext b
  exact inB_scl hm hn b x y
theorem tiles_scl {bs : List Til.Bx} {W G m n : Int} (T : Tiles bs W G) (hm : 0 < m) (hn : 0 < n) : Tiles (bs.map (scl m n)) (W * m) (G * n) := by
  refine ⟨fun b hb => ?_, fun x y x0 x1 y0 y1 => ?_⟩
  · obtain ⟨c, hc, rfl⟩ := List.mem_map.mp hb
    have o := T.wf c hc
    exact ⟨Int.mul_nonneg o.h0 (Int.le_of_lt hm), Int.mul_lt_mul_of_pos_right o.h1 hm, Int.mul_le_mul_of_nonneg_right o.h2 (Int.le_of_lt hm), Int.mul_nonneg o.v0 (Int.le_of_lt hn), Int.mul_lt_mul_of_pos_right o.v1 hn, Int.mul_le_mul_of_nonneg_right o.v2 (Int.le_of_lt hn)⟩
  · rw [cnt_scl hm hn]
    exact T.one _ _ (Int.ediv_nonneg x0 (Int.le_of_lt hm)) ((lt_scl hm).mp x1) (Int.ediv_nonneg y0 (Int.le_of_lt hn)) ((lt_scl hn).mp y1)
section
variable {P : Program} {w : World} {K : PySem.W.Frag} {mg : Str → Option Value} {base : Heap}
theorem scPageOf : FnScope ["script", "head", "wide", "high", "boxes", "by", "told"] ["script"] (defScope sPageOf) := ⟨rfl, rfl, rfl, by decide +kernel, rfl, by decide +kernel, by decide +kernel⟩
theorem ok_pageOf {f fC fM fB fK C : Addr} {fd dC dM dB dK : FuncData} (F : Fun K "_law_page_of" "_law_page_of" sPageOf f fd) (Ce : Callee P w K mg base CX0 1 "_law_cell_at" fC dC ["script", "k"] (spCellAt K)) (Mx : Callee P w K mg base CX0 1 "_law_mixed" fM dM ["cell", "k"] spMixed) (Lx : Callee P w K mg base CX0 3 "_law_boxes" fB dB ["cells", "wide", "high"] (spLbx K)) (Mk : Callee P w K mg base (CXE P w) 4 "make_page" fK dK ["wide", "high", "boxes"] (spMake C)) : FnOk P w K mg base CX0 5 f fd ["script"] (spPageOf K) := by
  refine F.ok scPageOf (fun vs H Q E h => ?_) (fun cdv A outer s H vs Q E hr h => ?_)
  · obtain ⟨a, ns, rfl, _⟩ := h
    rfl
  · obtain ⟨a, ns, rfl, hS, q⟩ := h
    refine ⟨_, (pss_cons (ps_set (i := 1) scPageOf.nd rfl (Or.inl rfl) (pe_call Ce.ok (hr.mono (show 1 ≤ 4 by decide)) rfl Ce.bound Ce.kp Ce.bd .nil pass0 (pa_cons (pv 0) (pa_cons pe_int pa_nil))))
      (pss_cons (ps_set (i := 2) scPageOf.nd rfl (Or.inl rfl) (pe_op op_add pe_int (pe_op op_mod (pe_call Mx.ok (hr.mono (show 1 ≤ 4 by decide)) rfl Mx.bound Mx.kp Mx.bd .nil pass0 (pa_cons (pv 1) (pa_cons pe_int pa_nil))) pe_int)))
      (pss_cons (ps_set (i := 3) scPageOf.nd rfl (Or.inl rfl) (pe_op op_add pe_int (pe_op op_mod (pe_call Mx.ok (hr.mono (show 1 ≤ 4 by decide)) rfl Mx.bound Mx.kp Mx.bd .nil pass0 (pa_cons (pv 1) (pa_cons pe_int pa_nil))) pe_int)))
      (pss_cons (ps_set (i := 4) scPageOf.nd rfl (Or.inl rfl) (pe_call Lx.ok (hr.mono (show 3 ≤ 4 by decide)) rfl Lx.bound Lx.kp Lx.bd .nil pass0 (pa_cons (pe_slice sl_list (pv 0) (po_some pe_int) (po_some pe_int)) (pa_cons (pv 2) (pa_cons (pv 3) pa_nil)))))
      (pss_cons (ps_set (i := 5) scPageOf.nd rfl (Or.inr rfl) (pe_lst (pa_cons pe_int (pa_cons pe_int pa_nil))))
      (pss_cons (ps_if (pt_cmpR op_eq (pe_op op_mod (pe_call Mx.ok (hr.mono (show 1 ≤ 4 by decide)) rfl Mx.bound Mx.kp Mx.bd .nil pass0 (pa_cons (pv 1) (pa_cons pe_int pa_nil))) pe_int) pe_int (nomark _))
      (pss_one (ps_set (i := 5) scPageOf.nd rfl (Or.inr rfl) (pe_lst (pa_cons (pe_op op_add pe_int (pe_op op_mod (pe_call Mx.ok (hr.mono (show 1 ≤ 4 by decide)) rfl Mx.bound Mx.kp Mx.bd .nil pass0 (pa_cons (pv 1) (pa_cons pe_int pa_nil))) pe_int)) (pa_cons (pe_op op_add pe_int (pe_op op_mod (pe_call Mx.ok (hr.mono (show 1 ≤ 4 by decide)) rfl Mx.bound Mx.kp Mx.bd .nil pass0 (pa_cons (pv 1) (pa_cons pe_int pa_nil))) pe_int)) pa_nil)))))
      pss_nil)
      (pss_cons (ps_comp (i := 6) (Nc := ["a", "b", "c", "d", "by"]) (ix := [none, none, none, none, some 5]) scPageOf.nd rfl (Or.inl rfl) rfl rfl (by refine' pi_list ?zz; case zz => exact (pv 4)) (fun _ _ _ _ _ => (pg_tupK (K := K) (n := 4) rfl rfl (pgs_cons (pg_name (i := 0) (by show (["a", "b", "c", "d", "by"] : List Str).Nodup; decide +kernel) rfl (Or.inl rfl)) (pgs_cons (pg_name (i := 1) (by show (["a", "b", "c", "d", "by"] : List Str).Nodup; decide +kernel) rfl (Or.inl rfl)) (pgs_cons (pg_name (i := 2) (by show (["a", "b", "c", "d", "by"] : List Str).Nodup; decide +kernel) rfl (Or.inl rfl)) (pgs_cons (pg_name (i := 3) (by show (["a", "b", "c", "d", "by"] : List Str).Nodup; decide +kernel) rfl (Or.inl rfl)) pgs_nil)))))) (fun _ _ _ _ _ => pts_nil) (fun _ _ _ _ _ => (pe_tup (pa_cons (pe_op op_mul (pv 0) (pe_ix (ix_listK (K := K) rfl) (pv 4) pe_int (fun _ _ => rfl))) (pa_cons (pe_op op_mul (pv 1) (pe_ix (ix_listK (K := K) rfl) (pv 4) pe_int (fun _ _ => rfl))) (pa_cons (pe_op op_mul (pv 2) (pe_ix (ix_listK (K := K) rfl) (pv 4) pe_int (fun _ _ => rfl))) (pa_cons (pe_op op_mul (pv 3) (pe_ix (ix_listK (K := K) rfl) (pv 4) pe_int (fun _ _ => rfl))) pa_nil)))))))
      (pss_one (ps_ret (pe_call Mk.ok hr rfl Mk.bound Mk.kp Mk.bd .nil passE0 (pa_cons (pe_op op_mul (pv 2) (pe_ix ix_list (pv 5) pe_int (fun _ _ => rfl))) (pa_cons (pe_op op_mul (pv 3) (pe_ix ix_list (pv 5) pe_int (fun _ _ => rfl))) (pa_cons (pv 6) pa_nil))))))))))))), ?_⟩
    refine ⟨_, rfl, a, ns, 0, rfl, hS, by decide, fun c0 => ?_⟩
    refine ⟨_, rfl, c0, 1, rfl, by decide, by decide, fun n1 _ => ⟨_, _, rfl, rfl, by show (0 : Int) < 40; decide, _, _, rfl, rfl, ?_⟩⟩
    refine ⟨_, rfl, c0, 2, rfl, by decide, by decide, fun n2 _ => ⟨_, _, rfl, rfl, by show (0 : Int) < 40; decide, _, _, rfl, rfl, ?_⟩⟩
    have a0 := Int.emod_nonneg n1 (show (40 : Int) ≠ 0 by decide)
    have a1 := Int.emod_lt_of_pos n1 (show (0 : Int) < 40 by decide)
    have b0 := Int.emod_nonneg n2 (show (40 : Int) ≠ 0 by decide)
    have b1 := Int.emod_lt_of_pos n2 (show (0 : Int) < 40 by decide)
    obtain ⟨W, hW⟩ : ∃ W, W = 1 + n1 % 40 := ⟨_, rfl⟩
    obtain ⟨G, hG⟩ : ∃ G, G = 1 + n2 % 40 := ⟨_, rfl⟩
    dsimp only
    rw [← hW, ← hG]
    obtain ⟨cells, hcut⟩ := cut_ints ns (some 2) (some 62)
    refine ⟨_, rfl, _, rfl, _, rfl, a, _, rfl, hS, fun pc nc => ?_⟩
    rw [hcut]
    have S1 := same_new (o := .lst (cells.map V.int)) nc
    have hpc : (upd H pc (.lst (cells.map V.int))) pc = some (.lst (cells.map V.int)) := upd_same
    generalize upd H pc (.lst (cells.map V.int)) = H1 at S1 hpc
    refine ⟨_, rfl, _, rfl, pc, cells, W, G, rfl, SqL.of hpc, by omega, by omega, fun l us bs H2 S2 hl hB T h24 => ?_⟩
    refine run_gname ?_
    dsimp only
    have S12 := S1.trans S2
    refine ⟨by show 2 ≤ sizeLine; decide, fun lb nlb => ?_⟩
    have S3 := S12.trans (same_new (o := .lst [V.int 1, .int 1]) nlb)
    have hlb : upd H2 lb (.lst [V.int 1, .int 1]) lb = some (.lst [V.int 1, .int 1]) := upd_same
    have T3 := same_new (o := .lst [V.int 1, .int 1]) nlb
    generalize upd H2 lb (.lst [V.int 1, .int 1]) = H3 at S3 hlb T3
    refine run_gname ?_
    dsimp only
    refine seq_via (G := fun σ H6 => ∃ (lb : Addr) (m n : Int), σ = [some (.ref a), some (.int c0), some (.int W), some (.int G), some (.ref l), some (.ref lb), none] ∧ Same H3 H6 ∧ H6 lb = some (.lst [.int m, .int n]) ∧ 1 ≤ m ∧ m ≤ 1250 ∧ 1 ≤ n ∧ n ≤ 1250) (fun N k => ?_) ?_
    · refine ⟨_, rfl, c0, 10, rfl, by decide, by decide, fun n3 _ => ⟨_, _, rfl, rfl, by show (0 : Int) < 2; decide, rfl, _, rfl, ?_⟩⟩
      refine ite2 (fun _ => ?_) (fun _ => ?_)
      · refine ⟨_, rfl, c0, 11, rfl, by decide, by decide, fun n4 _ => ⟨_, _, rfl, rfl, by show (0 : Int) < 1250; decide, _, _, rfl, rfl, ?_⟩⟩
        refine ⟨_, rfl, c0, 12, rfl, by decide, by decide, fun n5 _ => ⟨_, _, rfl, rfl, by show (0 : Int) < 1250; decide, _, _, rfl, rfl, ?_⟩⟩
        refine ⟨by show 2 ≤ sizeLine; decide, fun lc nlc => ?_⟩
        have q0 := Int.emod_nonneg n4 (show (1250 : Int) ≠ 0 by decide)
        have q1 := Int.emod_lt_of_pos n4 (show (0 : Int) < 1250 by decide)
        have r0 := Int.emod_nonneg n5 (show (1250 : Int) ≠ 0 by decide)
        have r1 := Int.emod_lt_of_pos n5 (show (0 : Int) < 1250 by decide)
        exact k _ _ ⟨lc, 1 + n4 % 1250, 1 + n5 % 1250, rfl, same_new nlc, upd_same, by omega, by omega, by omega, by omega⟩
      · refine run_next ?_
        dsimp only
        exact k _ _ ⟨lb, 1, 1, rfl, Same.refl _, hlb, by decide, by decide, by decide, by decide⟩
    · rintro σ H6 ⟨lc, m, n, rfl, S6, hlc, m1, m2, n1', n2'⟩
      have S36 := T3.trans S6
      have hl6 := S36 _ _ hl
      have hB6 := hB.same S36
      have lu := hB.len
      refine ⟨_, rfl, l, rfl, ⟨_, SqL.of hl6⟩, cmp_list (K := K) (a := l) (xs := us) (fun i ys σ H' => (∃ o0 o1 o2 o3, σ = [o0, o1, o2, o3, some (.ref lc)]) ∧ BoxesAt H' ys ((bs.take i).map (scl m n)) ∧ Same H6 H')
        ⟨⟨none, none, none, none, rfl⟩, .nil, Same.refl _⟩ (fun i ys σ H' hi ⟨_, e, S⟩ => ⟨?_, SqL.of (S _ _ hl6)⟩) ?_ ?_⟩
      · rw [e.len, List.length_map, List.length_take]
        exact Nat.le_trans (show _ ≤ 1000 by omega) (by decide)
      case refine_3 =>
        rintro i x ys σ H7 hx ⟨⟨o0, o1, o2, o3, rfl⟩, e, S7⟩
        have hi : i < bs.length := by rw [← lu]; exact (List.getElem?_eq_some_iff.mp hx).1
        have eb : bs[i]? = some bs[i] := List.getElem?_eq_getElem hi
        generalize bs[i] = b at eb
        obtain ⟨v, hv, pb, rfl, hb⟩ := hB6.get eb
        rw [hx] at hv
        cases hv
        have o := T.wf b (List.mem_of_getElem? eb)
        have h0 := o.h0
        have h1 := o.h1
        have h2 := o.h2
        have v0 := o.v0
        have v1 := o.v1
        have v2 := o.v2
        have hl7 := SqL.of (K := K) (S7 _ _ hlc)
        refine ⟨pb, _, rfl, SqT.of (S7 _ _ hb), rfl, _, _, rfl, _, _, rfl, _, _, rfl, _, _, rfl, rfl, ?_⟩
        dsimp only [tYes]
        refine iteT ?_
        refine ⟨_, rfl, _, rfl, _, _, _, _, rfl, rfl, hl7, rfl, _, _, rfl, rfl, .inl ⟨by omega, by omega⟩, ?_⟩
        refine ⟨_, rfl, _, rfl, _, _, _, _, rfl, rfl, hl7, rfl, _, _, rfl, rfl, .inl ⟨by omega, by omega⟩, ?_⟩
        refine ⟨_, rfl, _, rfl, _, _, _, _, rfl, rfl, hl7, rfl, _, _, rfl, rfl, .inl ⟨by omega, by omega⟩, ?_⟩
        refine ⟨_, rfl, _, rfl, _, _, _, _, rfl, rfl, hl7, rfl, _, _, rfl, rfl, .inl ⟨by omega, by omega⟩, ?_⟩
        refine ⟨by show 4 ≤ sizeLine; decide, fun tq ntq => ?_⟩
        have S8 := same_new (o := .tup [V.int (b.l * m), .int (b.t * n), .int (b.r * m), .int (b.b * n)]) ntq
        refine ⟨⟨_, _, _, _, rfl⟩, ?_, S7.trans S8⟩
        rw [List.take_add_one, eb, List.map_append]
        exact Paired.snoc (e.same S8) ⟨tq, rfl, upd_same⟩
      rintro ys σ H7 ⟨_, hY, S7⟩ lt nlt
      rw [lu, List.take_length] at hY
      have S8 := same_new (o := .lst ys) nlt
      have hlt : upd H7 lt (.lst ys) lt = some (.lst ys) := upd_same
      have hY := hY.same S8
      have S8 := S7.trans S8
      generalize upd H7 lt (.lst ys) = H8 at S8 hlt hY
      refine run_gname ?_
      dsimp only
      have hl8 := SqL.of (K := K) (S8 _ _ hlc)
      refine ⟨_, rfl, _, rfl, _, _, _, _, rfl, rfl, hl8, rfl, _, _, rfl, rfl, .inl ⟨by omega, by omega⟩, ?_⟩
      refine ⟨_, rfl, _, rfl, _, _, _, _, rfl, rfl, hl8, rfl, _, _, rfl, rfl, .inl ⟨by omega, by omega⟩, _, rfl, ?_⟩
      have T' := tiles_scl T (show 0 < m by omega) (show 0 < n by omega)
      have wp : 0 < W * m := Int.mul_pos (by omega) (by omega)
      have gp : 0 < G * n := Int.mul_pos (by omega) (by omega)
      have wl : W * m ≤ 40 * 1250 := Int.mul_le_mul (by omega) m2 (by omega) (by omega)
      have gl : G * n ≤ 40 * 1250 := Int.mul_le_mul (by omega) n2' (by omega) (by omega)
      have page := page_of_tiles T' wp gp (by rw [List.length_map]; exact h24)
      exact ⟨lt, ys, _, W * m, G * n, rfl, hlt, hY, by rw [List.length_map]; omega, by omega, by omega, fun _ pm cm H9 S9 hPm perm _ => q pm _ _ cm H9 ((S3.trans S6).trans (S8.trans S9)) hPm (tiles_perm perm T') wp gp (by omega), fun z => absurd page z⟩
end
end JC
set_option Elab.async false
set_option linter.all false
namespace Til
section
variable {cs : List Bx} {p : Bx} {us : List Int}
def NoX (cs : List Bx) (p : Bx) (e : Int) : Prop := ∀ b ∈ cs, wthn p b = true → ¬ (b.l < e ∧ e < b.r)
theorem nox_mem (mem : ∀ e, e ∈ us ↔ e = p.l ∨ e = p.r ∨ CutX cs p e) {e : Int} (h : e ∈ us) : NoX cs p e := by
  intro b hb hw z
  have i := wthn_iff.mp hw
  rcases (mem e).mp h with y | y | y
  · omega
  · omega
  · exact y.2.2 b hb hw z
theorem range_mem (P : Piece cs p) (mem : ∀ e, e ∈ us ↔ e = p.l ∨ e = p.r ∨ CutX cs p e) {e : Int} (h : e ∈ us) : p.l ≤ e ∧ e ≤ p.r := by
  have := P.wide
  rcases (mem e).mp h with y | y | y
  · omega
  · omega
  · exact ⟨Int.le_of_lt y.1, Int.le_of_lt y.2.1⟩
def prt (p : Bx) (x y : Int) : Bx := ⟨x, p.t, y, p.b⟩
theorem wthn_prt {x y : Int} {b : Bx} : wthn (prt p x y) b = true ↔ x ≤ b.l ∧ b.r ≤ y ∧ p.t ≤ b.t ∧ b.b ≤ p.b := wthn_iff
theorem wthn_part {x y : Int} (hx : p.l ≤ x) (hy : y ≤ p.r) {b : Bx} : wthn (prt p x y) b = true ↔ wthn p b = true ∧ x ≤ b.l ∧ b.r ≤ y := by
  rw [wthn_prt, wthn_iff]
  constructor
  · rintro ⟨a, b', c, d⟩
    exact ⟨⟨by omega, by omega, c, d⟩, a, b'⟩
  · rintro ⟨⟨a, b', c, d⟩, e, f⟩
    exact ⟨e, f, c, d⟩
theorem part_piece (P : Piece cs p) {x y : Int} (hx : p.l ≤ x) (hy : y ≤ p.r) (lt : x < y) (nx : NoX cs p x) (ny : NoX cs p y) : Piece cs (prt p x y) := by
  refine ⟨lt, P.high, fun a c h1 h2 h3 h4 => ?_⟩
  have h1 : x ≤ a := h1
  have h2 : a < y := h2
  obtain ⟨b, hb, hw, hi⟩ := P.fill a c (by omega) (by omega) h3 h4
  have i := inB_iff.mp hi
  have n1 := nx b hb hw
  have n2 := ny b hb hw
  exact ⟨b, hb, (wthn_part hx hy).mpr ⟨hw, by omega, by omega⟩, hi⟩
theorem part_cut {x y : Int} (hx : p.l ≤ x) (hy : y ≤ p.r) (nx : NoX cs p x) (ny : NoX cs p y) {e : Int} (c : CutX cs (prt p x y) e) : CutX cs p e := by
  obtain ⟨c1, c2, c3⟩ := c
  have c1 : x < e := c1
  have c2 : e < y := c2
  refine ⟨by omega, by omega, fun b hb hw z => ?_⟩
  have n1 := nx b hb hw
  have n2 := ny b hb hw
  exact c3 b hb ((wthn_part hx hy).mpr ⟨hw, by omega, by omega⟩) z
end
theorem countP_lt {α : Type} {f g : α → Bool} : ∀ {l : List α}, (∀ a ∈ l, f a = true → g a = true) → (∃ b ∈ l, g b = true ∧ ¬ f b = true) → l.countP f < l.countP g
  | [], _, ⟨b, hb, _⟩ => (nomatch hb)
  | a :: r, h, ⟨b, hb, h1, h2⟩ => by
    have le : r.countP f ≤ r.countP g := List.countP_mono_left fun d hd => h d (List.mem_cons_of_mem _ hd)
    rw [List.countP_cons, List.countP_cons]
    rcases List.mem_cons.mp hb with e | e
    · subst e
      rw [if_neg h2, if_pos h1]
      omega
    · have := countP_lt (l := r) (fun d hd => h d (List.mem_cons_of_mem _ hd)) ⟨b, e, h1, h2⟩
      by_cases z : f a = true
      · rw [if_pos z, if_pos (h a List.mem_cons_self z)]
        omega
      · rw [if_neg z]
        omega
section
variable {cs : List Bx} {p : Bx} {us : List Int}
theorem part_few (P : Piece cs p) {x y : Int} (hx : p.l ≤ x) (hy : y ≤ p.r) (ne : p.l < x ∨ y < p.r) : (cs.filter (wthn (prt p x y))).length < (cs.filter (wthn p)).length := by
  rw [← List.countP_eq_length_filter, ← List.countP_eq_length_filter]
  refine countP_lt (fun a _ h => ((wthn_part hx hy).mp h).1) ?_
  rcases ne with z | z
  · obtain ⟨b, hb, hw, e⟩ := ends_left P
    exact ⟨b, hb, hw, fun h => by have := (wthn_part hx hy).mp h; omega⟩
  · obtain ⟨b, hb, hw, e⟩ := ends_right P
    exact ⟨b, hb, hw, fun h => by have := (wthn_part hx hy).mp h; omega⟩
end
theorem zip_next : ∀ {us : List Int}, us.Pairwise (· < ·) → ∀ {x y : Int}, (x, y) ∈ us.zip (us.drop 1) → x ∈ us ∧ y ∈ us ∧ x < y ∧ ∀ e ∈ us, e ≤ x ∨ y ≤ e
  | [], _, x, y, h => by simp at h
  | [a], _, x, y, h => by simp at h
  | a :: b :: r, up, x, y, h => by
    obtain ⟨u1, u2⟩ := List.pairwise_cons.mp up
    have h : (x, y) = (a, b) ∨ (x, y) ∈ (b :: r).zip ((b :: r).drop 1) := by
      have e : (a :: b :: r).zip ((a :: b :: r).drop 1) = (a, b) :: (b :: r).zip ((b :: r).drop 1) := rfl
      rw [e] at h
      exact List.mem_cons.mp h
    rcases h with h | h
    · injection h with h1 h2
      subst h1
      subst h2
      refine ⟨List.mem_cons_self, List.mem_cons_of_mem _ List.mem_cons_self, u1 _ List.mem_cons_self, fun e he => ?_⟩
      rcases List.mem_cons.mp he with z | z
      · exact .inl (by omega)
      · rcases List.mem_cons.mp z with z | z
        · exact .inr (by omega)
        · exact .inr (Int.le_of_lt ((List.pairwise_cons.mp u2).1 e z))
    · obtain ⟨h1, h2, h3, h4⟩ := zip_next u2 h
      refine ⟨List.mem_cons_of_mem _ h1, List.mem_cons_of_mem _ h2, h3, fun e he => ?_⟩
      rcases List.mem_cons.mp he with z | z
      · have := u1 x h1
        exact .inl (by omega)
      · exact h4 e z
theorem between_perm {α : Type} (L : α → Int) (R : α → Int) (wf : ∀ b : α, L b < R b) : ∀ (us : List Int) (bs : List α), us.Pairwise (· < ·) → 2 ≤ us.length → (∀ e ∈ us, ∀ b ∈ bs, ¬ (L b < e ∧ e < R b)) → (∀ b ∈ bs, us.headD 0 ≤ L b ∧ R b ≤ us.getLastD 0) →
    ((us.zip (us.drop 1)).map fun q => bs.filter fun b => decide (q.1 ≤ L b) && decide (R b ≤ q.2)).flatten.Perm bs
  | [], bs, _, h, _, _ => by simp at h
  | [a], bs, _, h, _, _ => by simp at h
  | [a, b], bs, up, _, nc, bd => by
    show (([(a, b)] : List (Int × Int)).map fun q => bs.filter fun b => decide (q.1 ≤ L b) && decide (R b ≤ q.2)).flatten.Perm bs
    rw [List.map_cons, List.map_nil, List.flatten_cons, List.flatten_nil, List.append_nil, List.filter_eq_self.mpr]
    intro c hc
    have := bd c hc
    have h1 : a ≤ L c := this.1
    have h2 : R c ≤ b := this.2
    rw [decide_eq_true h1, decide_eq_true h2]
    rfl
  | a :: b :: c :: r, bs, up, _, nc, bd => by
    obtain ⟨u1, u2⟩ := List.pairwise_cons.mp up
    have e : (a :: b :: c :: r).zip ((a :: b :: c :: r).drop 1) = (a, b) :: (b :: c :: r).zip ((b :: c :: r).drop 1) := rfl
    rw [e, List.map_cons, List.flatten_cons]
    have ih := between_perm L R wf (b :: c :: r) (bs.filter fun d => decide (b ≤ L d)) u2 (by simp) (fun e he d hd => nc e (List.mem_cons_of_mem _ he) d (List.mem_filter.mp hd).1) (fun d hd => by
      obtain ⟨h1, h2⟩ := List.mem_filter.mp hd
      exact ⟨of_decide_eq_true h2, (bd d h1).2⟩)
    have e2 : ((b :: c :: r).zip ((b :: c :: r).drop 1)).map (fun q => (bs.filter fun d => decide (b ≤ L d)).filter fun b => decide (q.1 ≤ L b) && decide (R b ≤ q.2)) = ((b :: c :: r).zip ((b :: c :: r).drop 1)).map fun q => bs.filter fun b => decide (q.1 ≤ L b) && decide (R b ≤ q.2) := by
      refine List.map_congr_left fun q hq => ?_
      rw [List.filter_filter]
      refine List.filter_congr fun d _ => ?_
      obtain ⟨x, y⟩ := q
      have zn := zip_next u2 hq
      have bx : b ≤ x := by
        rcases List.mem_cons.mp zn.1 with z | z
        · omega
        · exact Int.le_of_lt ((List.pairwise_cons.mp u2).1 x z)
      rw [Bool.eq_iff_iff]
      simp only [Bool.and_eq_true, decide_eq_true_eq]
      omega
    rw [e2] at ih
    refine (List.Perm.append_left _ ih).trans ?_
    have e3 : (bs.filter fun d => decide (a ≤ L d) && decide (R d ≤ b)) = bs.filter fun d => !decide (b ≤ L d) := by
      refine List.filter_congr fun d hd => ?_
      have h1 := (bd d hd).1
      have h1 : a ≤ L d := h1
      have h2 := nc b (List.mem_cons_of_mem _ List.mem_cons_self) d hd
      have h3 := wf d
      rw [Bool.eq_iff_iff]
      simp only [Bool.and_eq_true, decide_eq_true_eq, Bool.not_eq_true', decide_eq_false_iff_not]
      omega
    show ((bs.filter fun d => decide (a ≤ L d) && decide (R d ≤ b)) ++ bs.filter fun d => decide (b ≤ L d)).Perm bs
    rw [e3]
    exact List.perm_append_comm.trans (List.filter_append_perm _ _)
end Til
set_option linter.all false
namespace Til
theorem flp_flp (cs : List Bx) : (cs.map flp).map flp = cs := by
  rw [List.map_map]
  exact List.map_id'' (fun _ => rfl) cs
end Til
set_option Elab.async false
set_option linter.all false
set_option maxRecDepth 100000
set_option maxHeartbeats 1000000
namespace JC
open PySem L2 Til Tre PySem.W
theorem rise_uniq : ∀ {a b : List Int}, a.Pairwise (· < ·) → b.Pairwise (· < ·) → (∀ z, z ∈ a ↔ z ∈ b) → a = b
  | [], [], _, _, _ => rfl
  | [], y :: b, _, _, h => by have := (h y).mpr List.mem_cons_self; cases this
  | x :: a, [], _, _, h => by have := (h x).mp List.mem_cons_self; cases this
  | x :: a, y :: b, u, v, h => by
    obtain ⟨u1, u2⟩ := List.pairwise_cons.mp u
    obtain ⟨v1, v2⟩ := List.pairwise_cons.mp v
    have e : x = y := by
      rcases List.mem_cons.mp ((h x).mp List.mem_cons_self) with z | z
      · exact z
      · rcases List.mem_cons.mp ((h y).mpr List.mem_cons_self) with w | w
        · exact w.symm
        · have := v1 x z
          have := u1 y w
          omega
    subst e
    rw [rise_uniq u2 v2 fun z => ⟨fun hz => ?_, fun hz => ?_⟩]
    · rcases List.mem_cons.mp ((h z).mp (List.mem_cons_of_mem _ hz)) with w | w
      · have := u1 z hz
        omega
      · exact w
    · rcases List.mem_cons.mp ((h z).mpr (List.mem_cons_of_mem _ hz)) with w | w
      · have := v1 z hz
        omega
      · exact w
theorem Ends.uniq {fl : Til.Bx → Til.Bx} {cs : List Til.Bx} {p : Til.Bx} {ms ns : List Int} (a : Ends fl cs p ms) (b : Ends fl cs p ns) : ms = ns := rise_uniq a.1 b.1 fun z => (a.2.1 z).trans (b.2.1 z).symm
theorem PartedAs.uniq {cs : List Til.Bx} {p : Til.Bx} {k k' : Str} {ps qs : List Til.Bx} (a : PartedAs cs p k ps) (b : PartedAs cs p k' qs) : k = k' ∧ ps = qs := by
  obtain ⟨ms, E, a⟩ := a
  obtain ⟨ns, E2, b⟩ := b
  have := E.uniq E2
  subst this
  rcases a with ⟨rfl, rfl, l⟩ | ⟨rfl, l, m1, F1, rfl⟩ <;> rcases b with ⟨rfl, rfl, l2⟩ | ⟨rfl, l2, m2, F2, rfl⟩
  · exact ⟨rfl, rfl⟩
  · omega
  · omega
  · rw [F1.uniq F2]
    exact ⟨rfl, rfl⟩
section
variable {cs : List Til.Bx} {p : Til.Bx} {W G : Int}
theorem parts_x (T : Tiles cs W G) (P : Piece cs p) {us : List Int} (up : us.Pairwise (· < ·)) (mem : ∀ e, e ∈ us ↔ e = p.l ∨ e = p.r ∨ CutX cs p e) {q : Til.Bx} (hq : q ∈ pcs p us) :
    Piece cs q ∧ (1 < (pcs p us).length → (cs.filter (wthn q)).length < (cs.filter (wthn p)).length) ∧ ¬ ∃ e, CutX cs q e := by
  unfold pcs at hq
  obtain ⟨⟨x, y⟩, hxy, rfl⟩ := List.mem_map.mp hq
  obtain ⟨m1, m2, lt, gap⟩ := zip_next up hxy
  have r1 := range_mem P mem m1
  have r2 := range_mem P mem m2
  have n1 := nox_mem mem m1
  have n2 := nox_mem mem m2
  refine ⟨part_piece P r1.1 r2.2 lt n1 n2, fun l2 => ?_, ?_⟩
  · refine part_few P r1.1 r2.2 ?_
    rw [pcs_len] at l2
    have a1 : p.l ∈ us := (mem _).mpr (.inl rfl)
    have a2 : p.r ∈ us := (mem _).mpr (.inr (.inl rfl))
    obtain ⟨e, he, ne1, ne2⟩ := (three up P.wide a1 a2).mp (by omega)
    have := range_mem P mem he
    rcases gap e he with z | z
    · left
      omega
    · right
      omega
  · rintro ⟨e, c⟩
    have h := (mem e).mpr (.inr (.inr (part_cut r1.1 r2.2 n1 n2 c)))
    have c1 : x < e := c.1
    have c2 : e < y := c.2.1
    rcases gap e h with z | z <;> omega
theorem unc_mem (T : Tiles cs W G) (P : Piece cs p) {ms : List Int} (E : Ends id cs p ms) : (unc id cs p ms).Pairwise (· < ·) ∧ ∀ e, e ∈ unc id cs p ms ↔ e = p.l ∨ e = p.r ∨ CutX cs p e := by
  obtain ⟨up, mem, _⟩ := E
  unfold unc
  rw [List.map_id] at mem ⊢
  exact ⟨filter_up up _, fun e => uncut_mem P mem fun b hb => (T.wf b hb).h1⟩
theorem unc_memF (T : Tiles cs W G) (P : Piece cs p) {ms : List Int} (E : Ends flp cs p ms) : (unc flp cs p ms).Pairwise (· < ·) ∧ ∀ e, e ∈ unc flp cs p ms ↔ e = (flp p).l ∨ e = (flp p).r ∨ CutX (cs.map flp) (flp p) e := by
  obtain ⟨up, mem, _⟩ := E
  unfold unc
  rw [filt_flp] at mem ⊢
  exact ⟨filter_up up _, fun e => uncut_mem P.flp mem fun b hb => ((tiles_flp T).wf b hb).h1⟩
theorem flp_len (q : Til.Bx) : ((cs.map flp).filter (wthn q)).length = (cs.filter (wthn (flp q))).length := by
  have := filt_flp cs (flp q)
  have e : flp (flp q) = q := rfl
  rw [e] at this
  rw [← this, List.length_map]
theorem Piece.back {q : Til.Bx} (h : Piece (cs.map flp) q) : Piece cs (flp q) := by
  have := h.flp
  rw [flp_flp] at this
  exact this
theorem parts_ok (T : Tiles cs W G) (P : Piece cs p) {k : Str} {ps : List Til.Bx} (h : PartedAs cs p k ps) {q : Til.Bx} (hq : q ∈ ps) :
    Piece cs q ∧ (1 < ps.length → (cs.filter (wthn q)).length < (cs.filter (wthn p)).length) ∧ (k = "|" → ¬ ∃ e, CutX cs q e) ∧ (k = "-" → ¬ ∃ e, CutX (cs.map flp) (flp q) e) := by
  have nk : ("|" : Str) ≠ "-" := bar_dash
  obtain ⟨ms, E, h⟩ := h
  rcases h with ⟨rfl, rfl, l⟩ | ⟨rfl, l, ns, E2, rfl⟩
  · obtain ⟨up, mem⟩ := unc_mem T P E
    obtain ⟨a, b, c⟩ := parts_x T P up mem hq
    exact ⟨a, b, fun _ => c, fun z => absurd z nk⟩
  · obtain ⟨up, mem⟩ := unc_memF T P E2
    obtain ⟨q', hq', rfl⟩ := List.mem_map.mp hq
    obtain ⟨a, b, c⟩ := parts_x (tiles_flp T) P.flp up mem hq'
    rw [flp_len, flp_len] at b
    refine ⟨Piece.back a, fun z => b (by rw [List.length_map] at z; exact z), fun z => absurd z.symm nk, fun _ => c⟩
end
mutual
inductive Fs (cs : List Til.Bx) : Til.Bx → Option Til.Bx → Prop where
  | box {p : Til.Bx} (h : p ∈ cs) : Fs cs p none
  | stk {p : Til.Bx} (h : p ∉ cs) (n : ¬ HasCut cs p) : Fs cs p (some p)
  | cut {p : Til.Bx} {o : Option Til.Bx} {k : Str} {ps : List Til.Bx} (h : p ∉ cs) (c : HasCut cs p) (hp : PartedAs cs p k ps) (r : FsL cs ps o) : Fs cs p o
inductive FsL (cs : List Til.Bx) : List Til.Bx → Option Til.Bx → Prop where
  | nil : FsL cs [] none
  | hit {q s : Til.Bx} {ps : List Til.Bx} (h : Fs cs q (some s)) : FsL cs (q :: ps) (some s)
  | miss {q : Til.Bx} {ps : List Til.Bx} {o : Option Til.Bx} (h : Fs cs q none) (r : FsL cs ps o) : FsL cs (q :: ps) o
end
mutual
theorem Fs.uniq {cs : List Til.Bx} : ∀ {p : Til.Bx} {o o' : Option Til.Bx}, Fs cs p o → Fs cs p o' → o = o'
  | _, _, _, .box h, g => by
    cases g with
    | box _ => rfl
    | stk h2 _ => exact absurd h h2
    | cut h2 _ _ _ => exact absurd h h2
  | _, _, _, .stk h n, g => by
    cases g with
    | box h2 => exact absurd h2 h
    | stk _ _ => rfl
    | cut _ c _ _ => exact absurd c n
  | _, _, _, .cut h c hp r, g => by
    cases g with
    | box h2 => exact absurd h2 h
    | stk _ n => exact absurd c n
    | cut _ _ hp2 r2 =>
      obtain ⟨_, e⟩ := hp.uniq hp2
      subst e
      exact FsL.uniq r r2
theorem FsL.uniq {cs : List Til.Bx} : ∀ {ps : List Til.Bx} {o o' : Option Til.Bx}, FsL cs ps o → FsL cs ps o' → o = o'
  | _, _, _, .nil, g => by cases g; rfl
  | _, _, _, .hit h, g => by
    cases g with
    | hit h2 => exact Fs.uniq h h2
    | miss h2 _ => cases Fs.uniq h h2
  | _, _, _, .miss h r, g => by
    cases g with
    | hit h2 => cases Fs.uniq h h2
    | miss _ r2 => exact FsL.uniq r r2
end
theorem FsL.pre {cs : List Til.Bx} : ∀ {as bs : List Til.Bx} {o : Option Til.Bx}, (∀ q ∈ as, Fs cs q none) → FsL cs bs o → FsL cs (as ++ bs) o
  | [], _, _, _, h => h
  | a :: as, _, _, ha, h => .miss (ha a List.mem_cons_self) (FsL.pre (fun q hq => ha q (List.mem_cons_of_mem _ hq)) h)
mutual
theorem Fs.stuck {cs : List Til.Bx} {W G : Int} (T : Tiles cs W G) : ∀ {p : Til.Bx} {o : Option Til.Bx}, Fs cs p o → Piece cs p → ∀ s, o = some s → IsS cs s
  | _, _, .box h, _, s, e => by cases e
  | _, _, .stk h n, P, s, e => by cases e; exact ⟨P, h, n⟩
  | _, _, .cut h c hp r, P, s, e => FsL.stuck T r (fun q hq => (parts_ok T P hp hq).1) s e
theorem FsL.stuck {cs : List Til.Bx} {W G : Int} (T : Tiles cs W G) : ∀ {ps : List Til.Bx} {o : Option Til.Bx}, FsL cs ps o → (∀ q ∈ ps, Piece cs q) → ∀ s, o = some s → IsS cs s
  | _, _, .nil, _, s, e => by cases e
  | _, _, .hit h, P, s, e => Fs.stuck T h (P _ List.mem_cons_self) s e
  | _, _, .miss h r, P, s, e => FsL.stuck T r (fun q hq => P q (List.mem_cons_of_mem _ hq)) s e
end
theorem FsL.all {cs : List Til.Bx} : ∀ {ps : List Til.Bx}, FsL cs ps none → ∀ q ∈ ps, Fs cs q none
  | _, .nil, q, hq => by cases hq
  | _, .miss h r, q, hq => by
    rcases List.mem_cons.mp hq with e | e
    · rw [e]; exact h
    · exact FsL.all r q e
theorem some_in {cs : List Til.Bx} {p : Til.Bx} (P : Piece cs p) : 0 < (cs.filter (wthn p)).length := by
  obtain ⟨b, hb, hw, _⟩ := ends_left P
  exact List.length_pos_of_mem (List.mem_filter.mpr ⟨hb, hw⟩)
theorem whole_piece {cs : List Til.Bx} {W G : Int} (T : Tiles cs W G) (hW : 0 < W) (hG : 0 < G) : Piece cs ⟨0, 0, W, G⟩ :=
  (piece_iff T).mpr ⟨⟨Int.le_refl _, hW, Int.le_refl _⟩, ⟨Int.le_refl _, hG, Int.le_refl _⟩, fun b hb _ => wthn_iff.mpr ⟨(T.wf b hb).h0, (T.wf b hb).h2, (T.wf b hb).v0, (T.wf b hb).v2⟩⟩
def spFst (d : Nat) : Sp := fun vs H Q _ => ∃ (pg : Addr) (u : V) (W G : Int) (cs : List Til.Bx) (p : Til.Bx), vs = [.ref pg, u] ∧ PageAt H pg W G cs ∧ BoxAt H u p ∧ Tiles cs W G ∧ Piece cs p ∧ (cs.filter (wthn p)).length ≤ d ∧ d ≤ 24 ∧
  (∀ H', Same H H' → Fs cs p none → Q .non H') ∧ ∀ (v : V) (s : Til.Bx) (H' : Hp), Same H H' → BoxAt H' v s → Fs cs p (some s) → Q v H'
def spWho : Sp := fun vs H Q _ => ∃ (pg : Addr) (W G : Int) (cs : List Til.Bx), vs = [.ref pg] ∧ PageAt H pg W G cs ∧ ∀ (v : V) (H' : Hp), Same H H' → BoxAt H' v ⟨0, 0, W, G⟩ → Q v H'
def spStk : Sp := fun vs H Q _ => ∃ (pg : Addr) (W G : Int) (cs : List Til.Bx), vs = [.ref pg] ∧ PageAt H pg W G cs ∧ Tiles cs W G ∧ 0 < W ∧ 0 < G ∧
  (∀ H', Same H H' → Fs cs ⟨0, 0, W, G⟩ none → Q .non H') ∧ ∀ (v : V) (s : Til.Bx) (H' : Hp), Same H H' → BoxAt H' v s → Fs cs ⟨0, 0, W, G⟩ (some s) → Q v H'
section
variable {P : Program} {w : World} {K : PySem.W.Frag} {mg : Str → Option Value} {base : Heap}
theorem scFst : FnScope ["page", "piece", "part", "found"] ["page", "piece"] (defScope sFst) := ⟨rfl, rfl, rfl, by decide +kernel, rfl, by decide +kernel, by decide +kernel⟩
theorem ok_fst0 {f : Addr} {fd : FuncData} (F : Fun K "first_stuck" "first_stuck" sFst f fd) : FnOk P w K mg base CX0 6 f fd ["page", "piece"] (spFst 0) := by
  refine F.ok scFst (fun vs H Q E h => ?_) (fun cdv A outer s H vs Q E hr h => ?_)
  · obtain ⟨pg, u, W, G, cs, p, rfl, _⟩ := h
    rfl
  · obtain ⟨pg, u, W, G, cs, p, rfl, _, _, _, PC, h0, _⟩ := h
    have := some_in PC
    omega
theorem ok_fst1 {f fH fP : Addr} {fd dH dP : FuncData} {d : Nat} (F : Fun K "first_stuck" "first_stuck" sFst f fd) (gBOXES : GI mg "BOXES" 2) (gPARTS : GI mg "PARTS" 1) (Hc : Callee P w K mg base CX0 5 "has_cut" fH dH ["page", "piece"] spHasC) (Pa : Callee P w K mg base CX0 4 "parted" fP dP ["page", "piece"] spPar)
    (Fi : Callee P w K mg base CX0 (d + 6) "first_stuck" f fd ["page", "piece"] (spFst d)) : FnOk P w K mg base CX0 (d + 7) f fd ["page", "piece"] (spFst (d + 1)) := by
  refine F.ok scFst (fun vs H Q E h => ?_) (fun cdv A outer s H vs Q E hr h => ?_)
  · obtain ⟨pg, u, W, G, cs, p, rfl, _⟩ := h
    rfl
  · obtain ⟨pg, u, W, G, cs, p, rfl, hPG, ⟨a, rfl, ha⟩, T, PC, hle, hd, qN, qS⟩ := h
    refine ⟨_, (pss_cons (ps_if (pt_cmpR (op_inT rfl hr.units) (pv 1) (pe_ix ix_tup (pv 0) (pe_gi rfl gBOXES) (fun _ _ => rfl)) rfl)
      (pss_one (ps_ret pe_non))
      pss_nil)
      (pss_cons (ps_if (pt_not (pt_val (pe_call Hc.ok (hr.mono (by omega)) rfl Hc.bound Hc.kp Hc.bd .nil pass0 (pa_cons (pv 0) (pa_cons (pv 1) pa_nil)))))
      (pss_one (ps_ret (pv 1)))
      pss_nil)
      (pss_cons (ps_for PassesOwn.never rfl (pi_list (pe_ix ix_tup (pe_call Pa.ok (hr.mono (by omega)) rfl Pa.bound Pa.kp Pa.bd .nil pass0 (pa_cons (pv 0) (pa_cons (pv 1) pa_nil))) (pe_gi rfl gPARTS) (fun _ _ => rfl))) (pg_name (i := 2) scFst.nd rfl (Or.inl rfl))
      (pss_cons (ps_set (i := 3) scFst.nd rfl (Or.inl rfl) (pe_call Fi.ok hr rfl Fi.bound Fi.kp Fi.bd .nil pass0 (pa_cons (pv 0) (pa_cons (pv 2) pa_nil))))
        (pss_one (ps_if (pt_cmpR op_notN (pv 3) pe_non rfl)
        (pss_one (ps_ret (pv 3)))
        pss_nil))))
      (pss_one (ps_ret pe_non))))), ?_⟩
    obtain ⟨tb, us, hpg, htb, hB, h24⟩ := id hPG
    obtain ⟨as, e, eu, hE, hany⟩ := in_boxes (K := K) hB ha
    subst eu
    refine ⟨_, rfl, _, rfl, _, _, _, _, rfl, rfl, SqT.of hpg, rfl, tb, as, e, 1, rfl, htb.sq, by decide, hE, _, rfl, ?_⟩
    rw [hany]
    by_cases hp : p ∈ cs
    · rw [decide_eq_true hp]
      exact iteT (qN H (Same.refl _) (.box hp))
    rw [decide_eq_false hp]
    refine iteF ?_
    refine run_next ?_
    dsimp only
    refine ⟨_, rfl, _, rfl, pg, .ref a, W, G, cs, p, rfl, hPG, ⟨a, rfl, ha⟩, T, PC, fun c H1 S1 hc => ⟨_, rfl, ?_⟩⟩
    cases c with
    | false => exact iteT ⟨_, rfl, qS _ p H1 S1 ⟨a, rfl, S1 _ _ ha⟩ (.stk hp fun z => by cases hc.mpr z)⟩
    | true =>
      have hcut := hc.mp rfl
      refine iteF ?_
      refine run_next ?_
      dsimp only
      refine ⟨_, rfl, _, rfl, pg, .ref a, W, G, cs, p, rfl, hPG.same S1, ⟨a, rfl, S1 _ _ ha⟩, fun tp l k vl ps H2 S2 htp hl hBp hPA => ?_⟩
      have l1 := (parted_cut T PC hPA).mpr hcut
      have lb := hBp.len
      refine ⟨_, _, _, _, rfl, rfl, SqT.of htp, rfl, l, rfl, ⟨_, SqL.of hl⟩, ?_⟩
      refine for_list (K := K) (a := l) (xs := vl) (fun i σ H3 => ∃ (o2 o3 : Option V), σ = [some (.ref pg), some (.ref a), o2, o3] ∧ Same H2 H3 ∧ ∀ q ∈ ps.take i, Fs cs q none)
        ⟨none, none, rfl, Same.refl _, fun q hq => by simp at hq⟩ (fun i σ H3 _ ⟨_, _, _, S, _⟩ => SqL.of (S _ _ hl)) ?_ ?_
      · rintro i v σ H3 hv ⟨o2, o3, rfl, S3, hpre⟩
        obtain ⟨q, hq, hbq⟩ := paired_get' hBp hv
        obtain ⟨ok1, ok2, _, _⟩ := parts_ok T PC hPA (List.mem_of_getElem? hq)
        have few := ok2 l1
        have A3 := S1.trans (S2.trans S3)
        obtain ⟨hil, ev⟩ := List.getElem?_eq_some_iff.mp hq
        refine run_gname ?_
        dsimp only
        refine ⟨_, rfl, _, rfl, pg, v, W, G, cs, q, rfl, hPG.same A3, hbq.same S3, T, ok1, by omega, by omega, fun H4 S4 hN => ?_, fun x s H4 S4 hx hS => ?_⟩
        · refine run_gname ?_
          dsimp only
          refine ⟨_, rfl, rfl, _, rfl, iteF ⟨_, _, rfl, S3.trans S4, fun q' hq' => ?_⟩⟩
          rw [List.take_add_one, hq] at hq'
          rcases List.mem_append.mp hq' with h | h
          · exact hpre q' h
          · rw [List.mem_singleton.mp (show q' ∈ [q] from h)]
            exact hN
        · refine run_gname ?_
          dsimp only
          obtain ⟨px, rfl, hpx⟩ := id hx
          refine ⟨_, rfl, rfl, _, rfl, iteT ⟨_, rfl, qS _ s H4 (A3.trans S4) hx (.cut hp hcut hPA ?_)⟩⟩
          have es : ps = ps.take i ++ q :: ps.drop (i + 1) := by
            rw [← ev, List.getElem_cons_drop, List.take_append_drop]
          rw [es]
          exact FsL.pre hpre (.hit hS)
      · rintro σ H3 ⟨o2, o3, rfl, S3, hpre⟩
        rw [lb, List.take_length] at hpre
        refine qN H3 (S1.trans (S2.trans S3)) (.cut hp hcut hPA ?_)
        have := FsL.pre (cs := cs) hpre .nil
        rw [List.append_nil] at this
        exact this
theorem ok_fst {f fH fP : Addr} {fd dH dP : FuncData} (F : Fun K "first_stuck" "first_stuck" sFst f fd) (gBOXES : GI mg "BOXES" 2) (gPARTS : GI mg "PARTS" 1) (Hc : Callee P w K mg base CX0 5 "has_cut" fH dH ["page", "piece"] spHasC) (Pa : Callee P w K mg base CX0 4 "parted" fP dP ["page", "piece"] spPar)
    (bo : mg "first_stuck" = some (.ref f)) (kp : PySem.W.keepIn K (.ref f) = true) (bd : Binds K fd ["page", "piece"] []) : ∀ d, FnOk P w K mg base CX0 (d + 6) f fd ["page", "piece"] (spFst d)
  | 0 => ok_fst0 F
  | d + 1 => ok_fst1 F gBOXES gPARTS Hc Pa ⟨ok_fst F gBOXES gPARTS Hc Pa bo kp bd d, bo, kp, bd⟩
theorem scWho : FnScope ["page"] ["page"] (defScope sWho) := ⟨rfl, rfl, rfl, by decide +kernel, rfl, by decide +kernel, by decide +kernel⟩
theorem ok_who {f : Addr} {fd : FuncData} (F : Fun K "whole_of" "whole_of" sWho f fd) (gWIDE : GI mg "WIDE" 0) (gHIGH : GI mg "HIGH" 1) : FnOk P w K mg base CX0 1 f fd ["page"] spWho := by
  refine F.ok scWho (fun vs H Q E h => ?_) (fun cdv A outer s H vs Q E hr h => ?_)
  · obtain ⟨pg, W, G, cs, rfl, _⟩ := h
    rfl
  · obtain ⟨pg, W, G, cs, rfl, ⟨tb, us, hpg, htb, hB, h24⟩, q⟩ := h
    refine ⟨_, (pss_one (ps_ret (pe_tup (pa_cons pe_int (pa_cons pe_int (pa_cons (pe_ix ix_tup (pv 0) (pe_gi rfl gWIDE) (fun _ _ => rfl)) (pa_cons (pe_ix ix_tup (pv 0) (pe_gi rfl gHIGH) (fun _ _ => rfl)) pa_nil))))))), ?_⟩
    exact run_tup4 (v1 := .int 0) (v2 := .int 0) (v3 := .int W) (v4 := .int G) evl_c evl_c (evl_ixT (evl_var rfl) evl_c (SqT.of hpg) rfl) (evl_ixT (evl_var rfl) evl_c (SqT.of hpg) rfl) (fun tq ntq => q _ _ (same_new ntq) ⟨tq, rfl, upd_same⟩)
theorem scStk : FnScope ["page"] ["page"] (defScope sStk) := ⟨rfl, rfl, rfl, by decide +kernel, rfl, by decide +kernel, by decide +kernel⟩
theorem ok_stk {f fF fW : Addr} {fd dF dW : FuncData} (F : Fun K "stuck_piece" "stuck_piece" sStk f fd) (Fi : Callee P w K mg base CX0 30 "first_stuck" fF dF ["page", "piece"] (spFst 24)) (Wh : Callee P w K mg base CX0 1 "whole_of" fW dW ["page"] spWho) : FnOk P w K mg base CX0 31 f fd ["page"] spStk := by
  refine F.ok scStk (fun vs H Q E h => ?_) (fun cdv A outer s H vs Q E hr h => ?_)
  · obtain ⟨pg, W, G, cs, rfl, _⟩ := h
    rfl
  · obtain ⟨pg, W, G, cs, rfl, hPG, T, hW, hG, qN, qS⟩ := h
    refine ⟨_, (pss_one (ps_ret (pe_call Fi.ok hr rfl Fi.bound Fi.kp Fi.bd .nil pass0 (pa_cons (pv 0) (pa_cons (pe_call Wh.ok (hr.mono (by decide)) rfl Wh.bound Wh.kp Wh.bd .nil pass0 (pa_cons (pv 0) pa_nil)) pa_nil))))), ?_⟩
    have h24 : cs.length ≤ 24 := (let ⟨_, _, _, _, _, h⟩ := hPG; h)
    refine ⟨_, rfl, _, rfl, pg, W, G, cs, rfl, hPG, fun v H1 S1 hv => ?_⟩
    exact ⟨pg, v, W, G, cs, _, rfl, hPG.same S1, hv, T, whole_piece T hW hG, Nat.le_trans (List.length_filter_le _ _) h24, Nat.le_refl _, fun H2 S2 h => qN H2 (S1.trans S2) h, fun x s H2 S2 hx h => qS x s H2 (S1.trans S2) hx h⟩
end
end JC
set_option Elab.async false
set_option linter.all false
set_option maxRecDepth 100000
set_option maxHeartbeats 1000000
namespace JC
open PySem L2 Til Tre PySem.W
mutual
inductive TrO (cs : List Til.Bx) : Til.Bx → T → Prop where
  | leaf {p : Til.Bx} {i : Nat} (h : cs[i]? = some p) : TrO cs p (.int (i : Int))
  | node {p : Til.Bx} {k : Str} {ps : List Til.Bx} {ts : List T} (h : p ∉ cs) (hp : PartedAs cs p k ps) (l : 1 < ps.length) (r : TrOL cs ps ts) : TrO cs p (.tup [.str k, .tup ts])
inductive TrOL (cs : List Til.Bx) : List Til.Bx → List T → Prop where
  | nil : TrOL cs [] []
  | cons {q : Til.Bx} {t : T} {ps : List Til.Bx} {ts : List T} (h : TrO cs q t) (r : TrOL cs ps ts) : TrOL cs (q :: ps) (t :: ts)
end
theorem TrOL.len {cs : List Til.Bx} : ∀ {ps : List Til.Bx} {ts : List T}, TrOL cs ps ts → ts.length = ps.length
  | _, _, .nil => rfl
  | _, _, .cons _ r => by rw [List.length_cons, List.length_cons, r.len]
theorem TrOL.snoc {cs : List Til.Bx} : ∀ {ps : List Til.Bx} {ts : List T} {q : Til.Bx} {t : T}, TrOL cs ps ts → TrO cs q t → TrOL cs (ps ++ [q]) (ts ++ [t])
  | _, _, _, _, .nil, h => .cons h .nil
  | _, _, _, _, .cons a r, h => .cons a (TrOL.snoc r h)
theorem AtL.snoc' {H : Hp} {vs : List V} {ts : List T} {v : V} {t : T} (h : AtL H vs ts) (g : At H v t) : AtL H (vs ++ [v]) (ts ++ [t]) := h.app (.cons g .nil)
theorem idx_ex {α : Type} (e : α → Bool) : ∀ (l : List α), l.any e = true → ∃ j : Nat, l[j]?.map e = some true ∧ ∀ m, m < j → l[m]?.map e = some false
  | [], h => by cases h
  | a :: r, h => by
    cases z : e a with
    | true => exact ⟨0, by simp [z], fun m hm => absurd hm (Nat.not_lt_zero _)⟩
    | false =>
      rw [List.any_cons, z, Bool.false_or] at h
      obtain ⟨j, h1, h2⟩ := idx_ex e r h
      refine ⟨j + 1, by simpa using h1, fun m hm => ?_⟩
      cases m with
      | zero => simp [z]
      | succ m => simpa using h2 m (by omega)
theorem box_idx {K : PySem.W.Frag} {H : Hp} {us : List V} {cs : List Til.Bx} {a : Addr} {p : Til.Bx} (hB : BoxesAt H us cs) (ha : H a = some (.tup (bxV p))) (hp : p ∈ cs) : ∃ (as : List Addr) (e : Addr → Bool) (j : Nat), us = as.map V.ref ∧ (∀ b ∈ as, EqR K H 1 (.ref b) (.ref a) (e b)) ∧ as[j]?.map e = some true ∧ (∀ m, m < j → as[m]?.map e = some false) ∧ cs[j]? = some p := by
  classical
  obtain ⟨as, rfl, l, h⟩ := boxes_refs hB
  have inj : ∀ c : Til.Bx, (some (HO.tup (bxV c)) = some (HO.tup (bxV p))) → c = p := fun c z => by
    injection z with z
    injection z with z
    unfold bxV at z
    simp only [List.cons.injEq, V.int.injEq, and_true] at z
    obtain ⟨z1, z2, z3, z4⟩ := z
    cases c
    cases p
    simp only [Bx.mk.injEq]
    exact ⟨z1, z2, z3, z4⟩
  have at_ : ∀ i b, as[i]? = some b → ∃ c, cs[i]? = some c ∧ H b = some (.tup (bxV c)) := fun i b hb => by
    obtain ⟨hi, _⟩ := List.getElem?_eq_some_iff.mp hb
    exact ⟨cs[i]'(by omega), List.getElem?_eq_getElem (by omega), h i b _ hb (List.getElem?_eq_getElem (by omega))⟩
  have any : as.any (fun b => decide (H b = some (.tup (bxV p)))) = true := by
    rw [List.any_eq_true]
    obtain ⟨i, hi, e⟩ := List.mem_iff_getElem.mp hp
    refine ⟨as[i]'(by omega), List.getElem_mem _, ?_⟩
    rw [decide_eq_true_eq]
    exact h i _ _ (List.getElem?_eq_getElem (by omega)) (by rw [List.getElem?_eq_getElem hi, e])
  obtain ⟨j, h1, h2⟩ := idx_ex _ as any
  refine ⟨as, fun b => decide (H b = some (.tup (bxV p))), j, rfl, fun b hb => ?_, h1, h2, ?_⟩
  · obtain ⟨i, hi, e⟩ := List.mem_iff_getElem.mp hb
    obtain ⟨c, _, hc⟩ := at_ i b (by rw [List.getElem?_eq_getElem hi, e])
    have z := eq_bx (K := K) hc ha
    have e : decide (c = p) = decide (H b = some (.tup (bxV p))) := by
      rw [Bool.eq_iff_iff, decide_eq_true_eq, decide_eq_true_eq, hc]
      exact ⟨fun z => by rw [z], inj c⟩
    show EqR K H 1 (.ref b) (.ref a) (decide (H b = some (.tup (bxV p))))
    rw [← e]
    exact z
  · cases eb : as[j]? with
    | none => rw [eb] at h1; cases h1
    | some b =>
      rw [eb] at h1
      have h1 : decide (H b = some (.tup (bxV p))) = true := Option.some.inj h1
      rw [decide_eq_true_eq] at h1
      obtain ⟨c, hc, hb⟩ := at_ j b eb
      rw [hb] at h1
      rw [hc, inj c h1]
def spTop (d : Nat) : Sp := fun vs H Q _ => ∃ (pg : Addr) (u : V) (W G : Int) (cs : List Til.Bx) (p : Til.Bx), vs = [.ref pg, u] ∧ PageAt H pg W G cs ∧ BoxAt H u p ∧ Tiles cs W G ∧ Piece cs p ∧ (cs.filter (wthn p)).length ≤ d ∧ d ≤ 24 ∧ Fs cs p none ∧
  ∀ (v : V) (t : T) (H' : Hp), Same H H' → At H' v t → TrO cs p t → Q v H'
def spTof : Sp := fun vs H Q _ => ∃ (pg : Addr) (W G : Int) (cs : List Til.Bx), vs = [.ref pg] ∧ PageAt H pg W G cs ∧ Tiles cs W G ∧ 0 < W ∧ 0 < G ∧
  (∀ (s : Til.Bx) (H' : Hp), Same H H' → Fs cs ⟨0, 0, W, G⟩ (some s) → Q (.str "stuck") H') ∧ ∀ (v : V) (t : T) (H' : Hp), Same H H' → Fs cs ⟨0, 0, W, G⟩ none → At H' v t → TrO cs ⟨0, 0, W, G⟩ t → Q v H'
section
variable {P : Program} {w : World} {K : PySem.W.Frag} {mg : Str → Option Value} {base : Heap}
theorem scTop : FnScope ["page", "piece", "cut"] ["page", "piece"] (defScope sTop) := ⟨rfl, rfl, rfl, by decide +kernel, rfl, by decide +kernel, by decide +kernel⟩
theorem ok_top0 {f : Addr} {fd : FuncData} (F : Fun K "tree_of_piece" "tree_of_piece" sTop f fd) : FnOk P w K mg base CX0 5 f fd ["page", "piece"] (spTop 0) := by
  refine F.ok scTop (fun vs H Q E h => ?_) (fun cdv A outer s H vs Q E hr h => ?_)
  · obtain ⟨pg, u, W, G, cs, p, rfl, _⟩ := h
    rfl
  · obtain ⟨pg, u, W, G, cs, p, rfl, _, _, _, PC, h0, _⟩ := h
    have := some_in PC
    omega
theorem ok_top1 {f fP : Addr} {fd dP : FuncData} {d : Nat} (F : Fun K "tree_of_piece" "tree_of_piece" sTop f fd) (gBOXES : GI mg "BOXES" 2) (gKIND : GI mg "KIND" 0) (gPARTS : GI mg "PARTS" 1) (ttup : mg "tuple" = none) (Pa : Callee P w K mg base CX0 4 "parted" fP dP ["page", "piece"] spPar)
    (Tp : Callee P w K mg base CX0 (d + 5) "tree_of_piece" f fd ["page", "piece"] (spTop d)) : FnOk P w K mg base CX0 (d + 6) f fd ["page", "piece"] (spTop (d + 1)) := by
  refine F.ok scTop (fun vs H Q E h => ?_) (fun cdv A outer s H vs Q E hr h => ?_)
  · obtain ⟨pg, u, W, G, cs, p, rfl, _⟩ := h
    rfl
  · obtain ⟨pg, u, W, G, cs, p, rfl, hPG, ⟨a, rfl, ha⟩, T, PC, hle, hd, hF, q⟩ := h
    refine ⟨_, (pss_cons (ps_if (pt_cmpR (op_inT rfl hr.units) (pv 1) (pe_ix ix_tup (pv 0) (pe_gi rfl gBOXES) (fun _ _ => rfl)) rfl)
      (pss_one (ps_ret (pe_bmT PySem.F.slot_tuple_index PySem.F.type_tuple_index (mt_indexT (K := K) rfl hr.units) (pe_ix ix_tup (pv 0) (pe_gi rfl gBOXES) (fun _ _ => rfl)) (pa_cons (pv 1) pa_nil))))
      pss_nil)
      (pss_cons (ps_set (i := 2) scTop.nd rfl (Or.inl rfl) (pe_call Pa.ok (hr.mono (by omega)) rfl Pa.bound Pa.kp Pa.bd .nil pass0 (pa_cons (pv 0) (pa_cons (pv 1) pa_nil))))
      (pss_one (ps_ret (pe_tup (pa_cons (pe_ix ix_tup (pv 2) (pe_gi rfl gKIND) (fun _ _ => rfl)) (pa_cons (pe_callTy call_tuple_of rfl ttup PyProof.Rows.boot_tuple (pa_cons (pe_comp (Nc := ["part", "page"]) (ix := [none, some 0]) rfl rfl (by refine' pi_list ?zz; case zz => exact (pe_ix ix_tup (pv 2) (pe_gi rfl gPARTS) (fun _ _ => rfl))) (fun _ _ _ _ _ => (pg_name (i := 0) (by show (["part", "page"] : List Str).Nodup; decide +kernel) rfl (Or.inl rfl))) (fun _ _ _ _ _ => pts_nil) (fun _ _ _ _ _ => (pe_call Tp.ok hr rfl Tp.bound Tp.kp Tp.bd .nil pass0 (pa_cons (pv 1) (pa_cons (pv 0) pa_nil))))) pa_nil)) pa_nil))))))), ?_⟩
    obtain ⟨tb, us, hpg, htb, hB, h24⟩ := id hPG
    obtain ⟨as, e, eu, hE, hany⟩ := in_boxes (K := K) hB ha
    refine ⟨_, rfl, _, rfl, _, _, _, _, rfl, rfl, SqT.of hpg, rfl, tb, as, e, 1, rfl, by rw [← eu]; exact htb.sq, by decide, hE, _, rfl, ?_⟩
    rw [hany]
    by_cases hp : p ∈ cs
    · rw [decide_eq_true hp]
      obtain ⟨as2, e2, j, eu2, hE2, j1, j2, ej⟩ := box_idx (K := K) hB ha hp
      exact iteT ⟨_, rfl, _, _, _, _, rfl, rfl, SqT.of hpg, rfl, ⟨_, _, rfl, htb⟩, _, rfl, tb, as2, _, e2, 1, j, rfl, rfl, by rw [← eu2]; exact htb.sq, by decide, hE2, j1, j2, q _ (.int j) H (Same.refl _) (.int _) (.leaf ej)⟩
    rw [decide_eq_false hp]
    refine iteF ?_
    refine run_next ?_
    dsimp only
    obtain ⟨k0, ps0, hPA0, hFL⟩ : ∃ k0 ps0, PartedAs cs p k0 ps0 ∧ FsL cs ps0 none := by
      cases hF with
      | box h => exact absurd h hp
      | cut _ _ hp2 r => exact ⟨_, _, hp2, r⟩
    have hcut : HasCut cs p := by
      cases hF with
      | box h => exact absurd h hp
      | cut _ c _ _ => exact c
    refine ⟨_, rfl, _, rfl, pg, .ref a, W, G, cs, p, rfl, hPG, ⟨a, rfl, ha⟩, fun tp l k vl ps H2 S2 htp hl hBp hPA => ?_⟩
    obtain ⟨_, eps⟩ := hPA.uniq hPA0
    subst eps
    have l1 := (parted_cut T PC hPA).mpr hcut
    have lb := hBp.len
    have l48 := hPA.len
    have all := hFL.all
    refine run_gname ?_
    dsimp only
    refine ⟨_, rfl, _, _, _, _, rfl, rfl, SqT.of htp, rfl, _, rfl, _, _, _, _, rfl, rfl, SqT.of htp, rfl, l, rfl, ⟨_, SqL.of hl⟩, cmp_list (K := K) (a := l) (xs := vl) (fun i ys σ H3 => (∃ o, σ = [o, some (.ref pg)]) ∧ Same H2 H3 ∧ ∃ ts, AtL H3 ys ts ∧ TrOL cs (ps.take i) ts)
      ⟨⟨none, rfl⟩, Same.refl _, [], .nil, .nil⟩ (fun i ys σ H3 hi ⟨_, S, ts, hA, hT⟩ => ⟨?_, SqL.of (S _ _ hl)⟩) ?_ ?_⟩
    · have := hA.len
      have := hT.len
      rw [List.length_take] at this
      exact Nat.le_trans (show _ ≤ 1000 by omega) (by decide)
    · rintro ys σ H3 ⟨_, S3, ts, hA, hT⟩ la nla
      rw [lb, List.take_length] at hT
      have S4 := same_new (o := .lst ys) nla
      have h4 : upd H3 la (.lst ys) la = some (.lst ys) := upd_same
      have hA := hA.same S4
      generalize upd H3 la (.lst ys) = H4 at S4 h4 hA
      refine ⟨la, ys, rfl, .inl ⟨SqL.of h4, fun tq ntq => ⟨by show 2 ≤ sizeLine; decide, fun tr ntr => ?_⟩⟩⟩
      have S5 := same_new (o := .tup ys) ntq
      have h5 : upd H4 tq (.tup ys) tq = some (.tup ys) := upd_same
      generalize upd H4 tq (.tup ys) = H5 at S5 h5 ntr
      have S6 := same_new (o := .tup [.str k, .ref tq]) ntr
      exact q _ (.tup [.str k, .tup ts]) _ (S2.trans (S3.trans (S4.trans (S5.trans S6)))) (.tup upd_same (.cons (.str _) (.cons (.tup (S6 _ _ h5) (hA.same (S5.trans S6))) .nil))) (.node hp hPA l1 hT)
    · rintro i x ys σ H3 hx ⟨⟨o, rfl⟩, S3, ts, hA, hT⟩
      obtain ⟨b, hb, hbx⟩ := paired_get' hBp hx
      have hm := List.mem_of_getElem? hb
      obtain ⟨ok1, ok2, _, _⟩ := parts_ok T PC hPA hm
      have few := ok2 l1
      dsimp only [gName, tYes]
      refine iteT ?_
      refine ⟨_, rfl, _, rfl, pg, x, W, G, cs, b, rfl, hPG.same (S2.trans S3), hbx.same S3, T, ok1, by omega, by omega, all b hm, fun v t H4 S4 hv ht => ⟨⟨_, rfl⟩, S3.trans S4, ts ++ [t], AtL.snoc' (hA.same S4) hv, ?_⟩⟩
      rw [List.take_add_one, hb]
      exact hT.snoc ht
theorem ok_top {f fP : Addr} {fd dP : FuncData} (F : Fun K "tree_of_piece" "tree_of_piece" sTop f fd) (gBOXES : GI mg "BOXES" 2) (gKIND : GI mg "KIND" 0) (gPARTS : GI mg "PARTS" 1) (ttup : mg "tuple" = none) (Pa : Callee P w K mg base CX0 4 "parted" fP dP ["page", "piece"] spPar)
    (bo : mg "tree_of_piece" = some (.ref f)) (kp : PySem.W.keepIn K (.ref f) = true) (bd : Binds K fd ["page", "piece"] []) : ∀ d, FnOk P w K mg base CX0 (d + 5) f fd ["page", "piece"] (spTop d)
  | 0 => ok_top0 F
  | d + 1 => ok_top1 F gBOXES gKIND gPARTS ttup Pa ⟨ok_top F gBOXES gKIND gPARTS ttup Pa bo kp bd d, bo, kp, bd⟩
theorem scTof : FnScope ["page"] ["page"] (defScope sTof) := ⟨rfl, rfl, rfl, by decide +kernel, rfl, by decide +kernel, by decide +kernel⟩
theorem ok_tof {f fS fT fW : Addr} {fd dS dT dW : FuncData} (F : Fun K "tree_of" "tree_of" sTof f fd) (gSTUCK : GS mg "STUCK" "stuck") (Sk : Callee P w K mg base CX0 31 "stuck_piece" fS dS ["page"] spStk) (Tp : Callee P w K mg base CX0 29 "tree_of_piece" fT dT ["page", "piece"] (spTop 24)) (Wh : Callee P w K mg base CX0 1 "whole_of" fW dW ["page"] spWho) : FnOk P w K mg base CX0 32 f fd ["page"] spTof := by
  refine F.ok scTof (fun vs H Q E h => ?_) (fun cdv A outer s H vs Q E hr h => ?_)
  · obtain ⟨pg, W, G, cs, rfl, _⟩ := h
    rfl
  · obtain ⟨pg, W, G, cs, rfl, hPG, T, hW, hG, qS, qT⟩ := h
    refine ⟨_, (pss_cons (ps_if (pt_cmpR op_notN (pe_call Sk.ok (hr.mono (show 31 ≤ 31 by decide)) rfl Sk.bound Sk.kp Sk.bd .nil pass0 (pa_cons (pv 0) pa_nil)) pe_non rfl)
      (pss_one (ps_ret (pe_gs rfl gSTUCK)))
      pss_nil)
      (pss_one (ps_ret (pe_call Tp.ok (hr.mono (by decide)) rfl Tp.bound Tp.kp Tp.bd .nil pass0 (pa_cons (pv 0) (pa_cons (pe_call Wh.ok (hr.mono (by decide)) rfl Wh.bound Wh.kp Wh.bd .nil pass0 (pa_cons (pv 0) pa_nil)) pa_nil)))))), ?_⟩
    have h24 : cs.length ≤ 24 := (let ⟨_, _, _, _, _, h⟩ := hPG; h)
    refine ⟨_, rfl, pg, W, G, cs, rfl, hPG, T, hW, hG, fun H1 S1 hF => ?_, fun v s H1 S1 hv hF => ?_⟩
    · refine ⟨rfl, _, rfl, iteF ?_⟩
      refine run_next ?_
      dsimp only
      refine ⟨_, rfl, _, rfl, pg, W, G, cs, rfl, hPG.same S1, fun v H2 S2 hv => ?_⟩
      exact ⟨pg, v, W, G, cs, _, rfl, hPG.same (S1.trans S2), hv, T, whole_piece T hW hG, Nat.le_trans (List.length_filter_le _ _) h24, Nat.le_refl _, hF, fun x t H3 S3 hx ht => qT x t H3 (S1.trans (S2.trans S3)) hF hx ht⟩
    · obtain ⟨px, rfl, hpx⟩ := id hv
      exact ⟨rfl, _, rfl, iteT (qS s H1 S1 hF)⟩
end
end JC
set_option Elab.async false
set_option linter.all false
set_option maxRecDepth 100000
set_option maxHeartbeats 1000000
namespace JC
open PySem L2 Til Tre PySem.W
def bx (cs : List Til.Bx) (i : Nat) : Til.Bx := cs.getD i ⟨0, 0, 1, 1⟩
def ixs (cs : List Til.Bx) (p : Til.Bx) : List Nat := (List.range cs.length).filter fun i => wthn p (bx cs i)
theorem bx_mem {cs : List Til.Bx} {i : Nat} (h : i < cs.length) : bx cs i ∈ cs ∧ cs[i]? = some (bx cs i) := by
  unfold bx
  rw [List.getD_eq_getElem?_getD, List.getElem?_eq_getElem h]
  exact ⟨List.getElem_mem h, rfl⟩
theorem bx_wf {cs : List Til.Bx} {W G : Int} (T : Tiles cs W G) (i : Nat) : (bx cs i).l < (bx cs i).r ∧ (bx cs i).t < (bx cs i).b := by
  by_cases h : i < cs.length
  · have o := T.wf _ (bx_mem h).1
    exact ⟨o.h1, o.v1⟩
  · unfold bx
    rw [List.getD_eq_getElem?_getD, List.getElem?_eq_none (by omega)]
    exact ⟨by decide, by decide⟩
theorem ends_le : ∀ {us : List Int}, us.Pairwise (· < ·) → ∀ {e : Int}, e ∈ us → us.headD 0 ≤ e ∧ e ≤ us.getLastD 0
  | [a], _, e, h => by rw [List.mem_singleton.mp h]; exact ⟨Int.le_refl _, Int.le_refl _⟩
  | a :: b :: r, up, e, h => by
    obtain ⟨u1, u2⟩ := List.pairwise_cons.mp up
    have l : (a :: b :: r).getLastD 0 = (b :: r).getLastD 0 := by simp [List.getLastD]
    rw [l]
    have hb := ends_le u2 (e := b) List.mem_cons_self
    have ab := u1 b List.mem_cons_self
    rcases List.mem_cons.mp h with z | z
    · rw [z]
      exact ⟨Int.le_refl _, by omega⟩
    · have := ends_le u2 z
      have := u1 e z
      exact ⟨by show a ≤ e; omega, by omega⟩
section
variable {cs : List Til.Bx} {p : Til.Bx} {W G : Int}
theorem ixs_mem {i : Nat} : i ∈ ixs cs p ↔ i < cs.length ∧ wthn p (bx cs i) = true := by
  unfold ixs
  rw [List.mem_filter, List.mem_range]
theorem ixs_parts (T : Tiles cs W G) (P : Piece cs p) {us : List Int} (up : us.Pairwise (· < ·)) (mem : ∀ e, e ∈ us ↔ e = p.l ∨ e = p.r ∨ CutX cs p e) (l : 2 ≤ us.length) : ((pcs p us).map (ixs cs)).flatten.Perm (ixs cs p) := by
  have h := between_perm (fun i => (bx cs i).l) (fun i => (bx cs i).r) (fun i => (bx_wf T i).1) us (ixs cs p) up l (fun e he i hi => by
    obtain ⟨h1, h2⟩ := ixs_mem.mp hi
    exact nox_mem mem he _ (bx_mem h1).1 h2) (fun i hi => by
    obtain ⟨h1, h2⟩ := ixs_mem.mp hi
    have j := wthn_iff.mp h2
    have e1 := (ends_le up ((mem p.l).mpr (.inl rfl))).1
    have e2 := (ends_le up ((mem p.r).mpr (.inr (.inl rfl)))).2
    exact ⟨by omega, by omega⟩)
  refine List.Perm.trans (List.Perm.of_eq ?_) h
  unfold pcs
  rw [List.map_map]
  congr 1
  refine List.map_congr_left fun q hq => ?_
  obtain ⟨x, y⟩ := q
  obtain ⟨m1, m2, lt, _⟩ := zip_next up hq
  have r1 := range_mem P mem m1
  have r2 := range_mem P mem m2
  show ixs cs (prt p x y) = (ixs cs p).filter _
  unfold ixs
  rw [List.filter_filter]
  refine List.filter_congr fun i _ => ?_
  rw [Bool.eq_iff_iff, wthn_part r1.1 r2.2]
  simp only [Bool.and_eq_true, decide_eq_true_eq]
  exact ⟨fun z => ⟨z.2, z.1⟩, fun z => ⟨z.2, z.1⟩⟩
theorem bx_flp (i : Nat) (h : i < cs.length) : bx (cs.map flp) i = flp (bx cs i) := by
  unfold bx
  rw [List.getD_eq_getElem?_getD, List.getElem?_map, List.getElem?_eq_getElem h, List.getD_eq_getElem?_getD, List.getElem?_eq_getElem h]
  rfl
theorem ixs_flp (q : Til.Bx) : ixs (cs.map flp) q = ixs cs (flp q) := by
  unfold ixs
  rw [List.length_map]
  refine List.filter_congr fun i hi => ?_
  rw [bx_flp i (List.mem_range.mp hi)]
  have := wthn_flp (flp q) (bx cs i)
  exact this
theorem parts_ixs (T : Tiles cs W G) (P : Piece cs p) {k : Str} {ps : List Til.Bx} (h : PartedAs cs p k ps) (l : 1 < ps.length) : (ps.map (ixs cs)).flatten.Perm (ixs cs p) := by
  obtain ⟨ms, E, h⟩ := h
  rcases h with ⟨rfl, rfl, l1⟩ | ⟨rfl, l1, ns, E2, rfl⟩
  · obtain ⟨up, mem⟩ := unc_mem T P E
    rw [pcs_len] at l1
    exact ixs_parts T P up mem (by omega)
  · obtain ⟨up, mem⟩ := unc_memF T P E2
    rw [List.length_map, pcs_len] at l
    have z := ixs_parts (tiles_flp T) P.flp up mem (by omega)
    rw [ixs_flp] at z
    refine List.Perm.trans (List.Perm.of_eq ?_) z
    rw [List.map_map]
    congr 1
    exact List.map_congr_left fun q _ => (ixs_flp q).symm
theorem ixs_box (T : Tiles cs W G) {i : Nat} (h : cs[i]? = some p) : ixs cs p = [i] := by
  obtain ⟨hi, e⟩ := List.getElem?_eq_some_iff.mp h
  have hp : p ∈ cs := List.mem_of_getElem? h
  have o := T.wf p hp
  have P : Piece cs p := ⟨o.h1, o.v1, fun x y a b c d => ⟨p, hp, wthn_iff.mpr ⟨Int.le_refl _, Int.le_refl _, Int.le_refl _, Int.le_refl _⟩, inB_iff.mpr ⟨a, b, c, d⟩⟩⟩
  have self : wthn p p = true := wthn_iff.mpr ⟨Int.le_refl _, Int.le_refl _, Int.le_refl _, Int.le_refl _⟩
  have only : ∀ j, j ∈ ixs cs p ↔ j = i := fun j => by
    rw [ixs_mem]
    constructor
    · rintro ⟨h1, h2⟩
      have := (piece_one T P).mp hp _ (bx_mem h1).1 _ hp h2 self
      have e2 := (bx_mem h1).2
      rw [this] at e2
      obtain ⟨h3, e3⟩ := List.getElem?_eq_some_iff.mp e2
      exact (List.getElem_inj (tiles_nodup T)).mp (e3.trans e.symm)
    · rintro rfl
      have := (bx_mem hi).2
      rw [h] at this
      rw [← Option.some.inj this]
      exact ⟨hi, self⟩
  have nd : (ixs cs p).Nodup := List.nodup_range.filter _
  match e : ixs cs p, only, nd with
  | [], only, _ => cases (only i).mpr rfl
  | [a], only, _ => rw [(only a).mp List.mem_cons_self]
  | a :: b :: r, only, nd =>
    have e1 := (only a).mp List.mem_cons_self
    have e2 := (only b).mp (List.mem_cons_of_mem _ List.mem_cons_self)
    rw [List.nodup_cons] at nd
    exact absurd (by rw [e1, ← e2]; exact List.mem_cons_self) nd.1
end
def CutK (cs : List Til.Bx) (q : Til.Bx) (k : Str) : Prop := (k = "|" ∧ ∃ e, CutX cs q e) ∨ (k = "-" ∧ ∃ e, CutX (cs.map flp) (flp q) e)
mutual
theorem TrO.good {cs : List Til.Bx} {W G : Int} (T : Tiles cs W G) : ∀ {p : Til.Bx} {t : Tre.T}, TrO cs p t → Piece cs p → ∃ n, Good t n ∧ n.Perm ((ixs cs p).map fun i : Nat => (i : Int)) ∧ ∀ k, HasK t k → CutK cs p k
  | _, _, .leaf (i := i) h, P => ⟨[(i : Int)], .leaf _, by rw [ixs_box T h]; exact .refl _, fun k hk => by obtain ⟨q, e⟩ := hk; cases e⟩
  | p, _, .node (k := k) (ps := ps) (ts := ts) h hp l r, P => by
    obtain ⟨nss, g, pm, hk⟩ := TrOL.good T r (fun q hq => (parts_ok T P hp hq).1)
    have nk : ("|" : Str) ≠ "-" := bar_dash
    have ik : isK k := by
      obtain ⟨ms, E, z⟩ := hp
      rcases z with ⟨z, _⟩ | ⟨z, _⟩
      · exact .inl z
      · exact .inr z
    have ln := r.len
    refine ⟨nss.flatten, .node ik (by omega) (fun t ht z => ?_) g, pm.trans ((parts_ixs T P hp l).map _), fun k' hk' => ?_⟩
    · obtain ⟨q, hq, cq⟩ := hk t ht k z
      obtain ⟨_, _, n1, n2⟩ := parts_ok T P hp hq
      rcases cq with ⟨e, c⟩ | ⟨e, c⟩
      · exact n1 e c
      · exact n2 e c
    · obtain ⟨q, e⟩ := hk'
      injection e with e
      injection e with e1 e2
      injection e1 with e1
      subst e1
      obtain ⟨ms, E, z⟩ := hp
      rcases z with ⟨rfl, rfl, l1⟩ | ⟨rfl, l1, ns, E2, rfl⟩
      · exact .inl ⟨rfl, (unc_id T P E).mp l1⟩
      · rw [List.length_map] at l
        exact .inr ⟨rfl, (unc_flp T P E2).mp l⟩
theorem TrOL.good {cs : List Til.Bx} {W G : Int} (T : Tiles cs W G) : ∀ {ps : List Til.Bx} {ts : List Tre.T}, TrOL cs ps ts → (∀ q ∈ ps, Piece cs q) → ∃ nss, GoodL ts nss ∧ nss.flatten.Perm ((ps.map (ixs cs)).flatten.map fun i : Nat => (i : Int)) ∧ ∀ t ∈ ts, ∀ k, HasK t k → ∃ q ∈ ps, CutK cs q k
  | _, _, .nil, _ => ⟨[], .nil, .refl _, fun t ht => by cases ht⟩
  | _, _, .cons (q := q) h r, P => by
    obtain ⟨n, g, pm, hk⟩ := TrO.good T h (P _ List.mem_cons_self)
    obtain ⟨nss, gs, pms, hks⟩ := TrOL.good T r (fun q hq => P q (List.mem_cons_of_mem _ hq))
    refine ⟨n :: nss, .cons g gs, ?_, fun t ht k z => ?_⟩
    · rw [List.flatten_cons, List.map_cons, List.flatten_cons, List.map_append]
      exact pm.append pms
    · rcases List.mem_cons.mp ht with e | e
      · subst e
        exact ⟨q, List.mem_cons_self, hk k z⟩
      · obtain ⟨q', hq', c⟩ := hks t e k z
        exact ⟨q', List.mem_cons_of_mem _ hq', c⟩
end
end JC
set_option Elab.async false
set_option linter.all false
set_option maxRecDepth 100000
set_option maxHeartbeats 1000000
namespace JC
open PySem L2 Til Tre PySem.W
def HC (fl : Til.Bx → Til.Bx) (bs : List Til.Bx) (b : Til.Bx) : Prop := (∃ c ∈ bs, (fl c).l < (fl b).l) ∧ ∀ c ∈ bs, ¬ ((fl c).l < (fl b).l ∧ (fl b).l < (fl c).r)
def spLhc : Sp := fun vs H Q _ => ∃ (l : Addr) (up : Bool) (us : List V) (bs : List Til.Bx), vs = [.ref l, .bl up] ∧ H l = some (.lst us) ∧ BoxesAt H us bs ∧ 0 < bs.length ∧ bs.length ≤ 24 ∧
  ∀ (c : Bool) (H' : Hp), Same H H' → (c = true ↔ ∃ b ∈ bs, HC (if up then id else flp) bs b) → Q (.bl c) H'
def spLwo : Sp := fun vs H Q _ => ∃ (l : Addr) (us : List V) (bs : List Til.Bx), vs = [.ref l] ∧ H l = some (.lst us) ∧ BoxesAt H us bs ∧ 0 < bs.length ∧ bs.length ≤ 24 ∧
  ∀ (v : V) (z : Til.Bx) (H' : Hp), Same H H' → BoxAt H' v z → ((∃ b ∈ bs, b.l = z.l) ∧ ∀ b ∈ bs, z.l ≤ b.l) → ((∃ b ∈ bs, b.t = z.t) ∧ ∀ b ∈ bs, z.t ≤ b.t) → ((∃ b ∈ bs, b.r = z.r) ∧ ∀ b ∈ bs, b.r ≤ z.r) → ((∃ b ∈ bs, b.b = z.b) ∧ ∀ b ∈ bs, b.b ≤ z.b) → Q v H'
theorem hc_cut {cs bs : List Til.Bx} {p : Til.Bx} (P : Piece cs p) (mem : ∀ b, b ∈ bs ↔ b ∈ cs ∧ wthn p b = true) (wf : ∀ b ∈ cs, b.l < b.r) : (∃ b ∈ bs, HC id bs b) ↔ ∃ e, CutX cs p e := by
  constructor
  · rintro ⟨b, hb, ⟨c, hc, lt⟩, no⟩
    obtain ⟨h1, h2⟩ := (mem b).mp hb
    obtain ⟨h3, h4⟩ := (mem c).mp hc
    have i2 := wthn_iff.mp h2
    have i4 := wthn_iff.mp h4
    have := wf b h1
    have lt : c.l < b.l := lt
    exact ⟨b.l, by omega, by omega, fun d hd hw z => no d ((mem d).mpr ⟨hd, hw⟩) z⟩
  · rintro ⟨e, c⟩
    obtain ⟨b, hb, hw, rfl⟩ := cut_left P c
    obtain ⟨d, hd, hwd, ed⟩ := ends_left P
    exact ⟨b, (mem b).mpr ⟨hb, hw⟩, ⟨d, (mem d).mpr ⟨hd, hwd⟩, by show d.l < b.l; rw [ed]; exact c.1⟩, fun a ha z => c.2.2 a ((mem a).mp ha).1 ((mem a).mp ha).2 z⟩
theorem hc_flp (bs : List Til.Bx) : (∃ b ∈ bs, HC flp bs b) ↔ ∃ b ∈ bs.map flp, HC id (bs.map flp) b := by
  constructor
  · rintro ⟨b, hb, ⟨c, hc, lt⟩, no⟩
    exact ⟨flp b, List.mem_map.mpr ⟨b, hb, rfl⟩, ⟨flp c, List.mem_map.mpr ⟨c, hc, rfl⟩, lt⟩, fun d hd z => by
      obtain ⟨d', hd', rfl⟩ := List.mem_map.mp hd
      exact no d' hd' z⟩
  · rintro ⟨b, hb, ⟨c, hc, lt⟩, no⟩
    obtain ⟨b', hb', rfl⟩ := List.mem_map.mp hb
    obtain ⟨c', hc', rfl⟩ := List.mem_map.mp hc
    exact ⟨b', hb', ⟨c', hc', lt⟩, fun d hd z => no (flp d) (List.mem_map.mpr ⟨d, hd, rfl⟩) z⟩
theorem hc_cutF {cs bs : List Til.Bx} {p : Til.Bx} (P : Piece cs p) (mem : ∀ b, b ∈ bs ↔ b ∈ cs ∧ wthn p b = true) (wf : ∀ b ∈ cs, b.t < b.b) : (∃ b ∈ bs, HC flp bs b) ↔ ∃ e, CutX (cs.map flp) (flp p) e := by
  rw [hc_flp]
  refine hc_cut P.flp (fun b => ?_) (fun b hb => ?_)
  · constructor
    · intro hb
      obtain ⟨c, hc, rfl⟩ := List.mem_map.mp hb
      obtain ⟨h1, h2⟩ := (mem c).mp hc
      exact ⟨List.mem_map.mpr ⟨c, h1, rfl⟩, by rw [wthn_flp]; exact h2⟩
    · rintro ⟨hb, hw⟩
      obtain ⟨c, hc, rfl⟩ := List.mem_map.mp hb
      rw [wthn_flp] at hw
      exact List.mem_map.mpr ⟨c, (mem c).mpr ⟨hc, hw⟩, rfl⟩
  · obtain ⟨c, hc, rfl⟩ := List.mem_map.mp hb
    exact wf c hc
theorem round_piece {cs bs : List Til.Bx} {p z : Til.Bx} (P : Piece cs p) (mem : ∀ b, b ∈ bs ↔ b ∈ cs ∧ wthn p b = true) (h1 : (∃ b ∈ bs, b.l = z.l) ∧ ∀ b ∈ bs, z.l ≤ b.l) (h2 : (∃ b ∈ bs, b.t = z.t) ∧ ∀ b ∈ bs, z.t ≤ b.t) (h3 : (∃ b ∈ bs, b.r = z.r) ∧ ∀ b ∈ bs, b.r ≤ z.r) (h4 : (∃ b ∈ bs, b.b = z.b) ∧ ∀ b ∈ bs, b.b ≤ z.b) : z = p := by
  obtain ⟨⟨b1, m1, e1⟩, l1⟩ := h1
  obtain ⟨⟨b2, m2, e2⟩, l2⟩ := h2
  obtain ⟨⟨b3, m3, e3⟩, l3⟩ := h3
  obtain ⟨⟨b4, m4, e4⟩, l4⟩ := h4
  have w1 := wthn_iff.mp ((mem _).mp m1).2
  have w2 := wthn_iff.mp ((mem _).mp m2).2
  have w3 := wthn_iff.mp ((mem _).mp m3).2
  have w4 := wthn_iff.mp ((mem _).mp m4).2
  obtain ⟨a1, n1, v1, f1⟩ := ends_left P
  obtain ⟨a2, n2, v2, f2⟩ := ends_right P
  obtain ⟨a3', n3', v3', f3⟩ := ends_left P.flp
  obtain ⟨a4', n4', v4', f4⟩ := ends_right P.flp
  obtain ⟨a3, n3, rfl⟩ := List.mem_map.mp n3'
  obtain ⟨a4, n4, rfl⟩ := List.mem_map.mp n4'
  rw [wthn_flp] at v3' v4'
  have g1 := l1 a1 ((mem _).mpr ⟨n1, v1⟩)
  have g2 := l3 a2 ((mem _).mpr ⟨n2, v2⟩)
  have g3 := l2 a3 ((mem _).mpr ⟨n3, v3'⟩)
  have g4 := l4 a4 ((mem _).mpr ⟨n4, v4'⟩)
  have f3 : a3.t = p.t := f3
  have f4 : a4.b = p.b := f4
  have : z.l = p.l := by omega
  have : z.t = p.t := by omega
  have : z.r = p.r := by omega
  have : z.b = p.b := by omega
  cases z
  cases p
  simp_all
section
variable {P : Program} {w : World} {K : PySem.W.Frag} {mg : Str → Option Value} {base : Heap}
theorem boxes_at {H H' : Hp} {us : List V} {bs : List Til.Bx} (hB : BoxesAt H us bs) (S : Same H H') {i : Nat} {x : V} (hx : us[i]? = some x) : ∃ (p : Addr) (b : Til.Bx), x = .ref p ∧ bs[i]? = some b ∧ H' p = some (.tup (bxV b)) := by
  obtain ⟨b, hb, p, rfl, hp⟩ := paired_get' hB hx
  exact ⟨p, b, rfl, hb, S _ _ hp⟩
theorem scLhc : FnScope ["boxes", "upright", "first", "least", "at", "across"] ["boxes", "upright"] (defScope sLhc) := ⟨rfl, rfl, rfl, by decide +kernel, rfl, by decide +kernel, by decide +kernel⟩
theorem ok_lhc {f : Addr} {fd : FuncData} (F : Fun K "_law_has_cut" "_law_has_cut" sLhc f fd) (tint : mg "int" = none) (tmin : mg "min" = none) : FnOk P w K mg base CX0 1 f fd ["boxes", "upright"] spLhc := by
  refine F.ok scLhc (fun vs H Q E h => ?_) (fun cdv A outer s H vs Q E hr h => ?_)
  · obtain ⟨l, up, us, bs, rfl, _⟩ := h
    rfl
  · obtain ⟨l, up, us, bs, rfl, hl, hB, l0, l24, q⟩ := h
    refine ⟨_, (pss_cons (ps_set (i := 2) scLhc.nd rfl (Or.inr rfl) (pe_callTy call_intB rfl tint PyProof.Rows.boot_int (pa_cons (pe_not (pv 1)) pa_nil)))
      (pss_cons (ps_set (i := 3) scLhc.nd rfl (Or.inl rfl) (pe_callB (call_minL rfl) (by rfl) tmin PyProof.Rows.boot_min (pa_cons (pe_comp (Nc := ["box", "first"]) (ix := [none, some 2]) rfl rfl (by refine' pi_list ?zz; case zz => exact (pv 0)) (fun _ _ _ _ _ => (pg_name (i := 0) (by show (["box", "first"] : List Str).Nodup; decide +kernel) rfl (Or.inl rfl))) (fun _ _ _ _ _ => pts_nil) (fun _ _ _ _ _ => (pe_ix (ix_tupK (K := K) rfl) (pv 0) (pv 1) (fun _ _ => rfl)))) pa_nil)))
      (pss_cons (ps_for PassesOwn.never rfl (pi_list (pe_comp (Nc := ["box", "first"]) (ix := [none, some 2]) rfl rfl (by refine' pi_list ?zz; case zz => exact (pv 0)) (fun _ _ _ _ _ => (pg_name (i := 0) (by show (["box", "first"] : List Str).Nodup; decide +kernel) rfl (Or.inl rfl))) (fun _ _ _ _ _ => pts_nil) (fun _ _ _ _ _ => (pe_ix (ix_tupK (K := K) rfl) (pv 0) (pv 1) (fun _ _ => rfl))))) (pg_name (i := 4) scLhc.nd rfl (Or.inr rfl))
      (pss_cons (ps_comp (i := 5) (Nc := ["box", "at", "first"]) (ix := [none, some 4, some 2]) scLhc.nd rfl (Or.inl rfl) rfl rfl (by refine' pi_list ?zz; case zz => exact (pv 0)) (fun _ _ _ _ _ => (pg_name (i := 0) (by show (["box", "at", "first"] : List Str).Nodup; decide +kernel) rfl (Or.inl rfl))) (fun _ _ _ _ _ => (pts_one (PW.pt (pw_and (pt_cmpR op_lt (pe_ix (ix_tupK (K := K) rfl) (pv 0) (pv 2) (fun _ _ => rfl)) (pv 1) (nomark _)) (pw_and1 (pt_cmpR op_lt (pv 1) (pe_ix (ix_tupK (K := K) rfl) (pv 0) (pe_op op_add (pv 2) pe_int) (fun _ _ => rfl)) (nomark _))))))) (fun _ _ _ _ _ => (pv 0)))
        (pss_one (ps_if (PW.pt (pw_and (pt_cmpR op_gt (pv 4) (pv 3) (nomark _)) (pw_and1 (pt_cmpR (op_eqR hr.units) (pv 5) (pe_lst pa_nil) (nomark _)))))
        (pss_one (ps_ret pe_bl))
        pss_nil))))
      (pss_one (ps_ret pe_bl))))), ?_⟩
    have lu := hB.len
    refine ⟨_, rfl, up, rfl, _, rfl, ?_⟩
    obtain ⟨fi, fl, efi, efl, ix⟩ : ∃ (fi : Int) (fl : Til.Bx → Til.Bx), (if (!up) = true then (1 : Int) else 0) = fi ∧ (if up then id else flp) = fl ∧ ∀ b : Til.Bx, atI (bxV b) fi = some (.int (fl b).l) ∧ atI (bxV b) (fi + 2) = some (.int (fl b).r) := by
      cases up with
      | true => exact ⟨0, id, rfl, rfl, fun b => ⟨rfl, rfl⟩⟩
      | false => exact ⟨1, flp, rfl, rfl, fun b => ⟨rfl, rfl⟩⟩
    rw [efi]
    rw [efl] at q
    refine run_gname ?_
    dsimp only
    have few : ∀ (g : Til.Bx → V) (i : Nat) (ys : List V), ys = (bs.take i).map g → ys.length ≤ sizeLine := fun g i ys e => by
      rw [e, List.length_map, List.length_take]
      exact Nat.le_trans (show _ ≤ 1000 by omega) (by decide)
    have push : ∀ (g : Til.Bx → V) (i : Nat) (b : Til.Bx), bs[i]? = some b → (bs.take i).map g ++ [g b] = (bs.take (i + 1)).map g := fun g i b eb => by
      rw [List.take_add_one, eb, List.map_append]
      rfl
    refine ⟨_, rfl, l, rfl, ⟨_, SqL.of hl⟩, cmp_list (K := K) (a := l) (xs := us) (fun i ys σ H' => (∃ o, σ = [o, some (.int fi)]) ∧ ys = (bs.take i).map (fun b => V.int (fl b).l) ∧ Same H H')
      ⟨⟨none, rfl⟩, rfl, Same.refl _⟩ (fun i ys σ H' hi ⟨_, e, S⟩ => ⟨few _ i ys e, SqL.of (S _ _ hl)⟩) ?_ ?_⟩
    case refine_2 =>
      rintro i x ys σ H' hx ⟨⟨o, rfl⟩, e, S⟩
      subst e
      obtain ⟨pb, b, rfl, eb, hb⟩ := boxes_at hB S hx
      dsimp only [gName, tYes]
      refine iteT ?_
      exact ⟨_, rfl, _, rfl, _, _, _, _, rfl, rfl, SqT.of hb, (ix b).1, ⟨_, rfl⟩, push (fun b => V.int (fl b).l) i b eb, S⟩
    rintro ys σ H1 ⟨_, e1, S1⟩ la nla
    rw [lu, List.take_length] at e1
    have hla : upd H1 la (.lst ys) la = some (.lst ((bs.map fun b => (fl b).l).map V.int)) := by rw [upd_same, e1, List.map_map]; rfl
    have S2 := S1.trans (same_new (o := .lst ys) nla)
    generalize upd H1 la (.lst ys) = H2 at hla S2
    refine ⟨la, _, rfl, SqL.of hla, by rw [List.length_map]; exact l0, fun M hM hle => ?_⟩
    obtain ⟨bm, hbm, rfl⟩ := List.mem_map.mp hM
    refine run_gname ?_
    dsimp only
    have hl2 := S2 _ _ hl
    refine ⟨_, rfl, l, rfl, ⟨_, SqL.of hl2⟩, cmp_list (K := K) (a := l) (xs := us) (fun i ys σ H' => (∃ o, σ = [o, some (.int fi)]) ∧ ys = (bs.take i).map (fun b => V.int (fl b).l) ∧ Same H2 H')
      ⟨⟨none, rfl⟩, rfl, Same.refl _⟩ (fun i ys σ H' hi ⟨_, e, S⟩ => ⟨few _ i ys e, SqL.of (S _ _ hl2)⟩) ?_ ?_⟩
    case refine_2 =>
      rintro i x ys σ H' hx ⟨⟨o, rfl⟩, e, S⟩
      subst e
      obtain ⟨pb, b, rfl, eb, hb⟩ := boxes_at hB (S2.trans S) hx
      dsimp only [gName, tYes]
      refine iteT ?_
      exact ⟨_, rfl, _, rfl, _, _, _, _, rfl, rfl, SqT.of hb, (ix b).1, ⟨_, rfl⟩, push (fun b => V.int (fl b).l) i b eb, S⟩
    rintro ys σ H3 ⟨_, e3, S3⟩ lc nlc
    rw [lu, List.take_length] at e3
    have hlc : upd H3 lc (.lst ys) lc = some (.lst (bs.map fun b => V.int (fl b).l)) := by rw [upd_same, e3]
    have S4 := S3.trans (same_new (o := .lst ys) nlc)
    generalize upd H3 lc (.lst ys) = H4 at hlc S4
    have A4 := S2.trans S4
    refine ⟨lc, rfl, ⟨_, SqL.of hlc⟩, ?_⟩
    refine for_list (K := K) (a := lc) (xs := bs.map fun b => V.int (fl b).l) (fun i σ H6 => ∃ (o4 o5 : Option V), σ = [some (.ref l), some (.bl up), some (.int fi), some (.int (fl bm).l), o4, o5] ∧ Same H4 H6 ∧ ∀ b ∈ bs.take i, ¬ HC fl bs b)
      ⟨_, _, rfl, Same.refl _, fun b hb => by simp at hb⟩ (fun i σ H6 _ ⟨_, _, _, S, _⟩ => SqL.of (S _ _ hlc)) ?_ ?_
    · rintro i v σ H6 hv ⟨o4, o5, rfl, S6, no⟩
      rw [List.getElem?_map] at hv
      cases eb : bs[i]? with
      | none => rw [eb] at hv; cases hv
      | some b =>
        rw [eb] at hv
        cases hv
        refine run_gname ?_
        dsimp only
        have A6 := A4.trans S6
        have hl6 := A6 _ _ hl
        refine ⟨_, rfl, l, rfl, ⟨_, SqL.of hl6⟩, cmp_list (K := K) (a := l) (xs := us) (fun i ys σ H' => (∃ o, σ = [o, some (.int (fl b).l), some (.int fi)]) ∧ ys.length ≤ i ∧ (ys = [] ↔ ∀ c ∈ bs.take i, ¬ ((fl c).l < (fl b).l ∧ (fl b).l < (fl c).r)) ∧ Same H6 H')
          ⟨⟨none, rfl⟩, Nat.le_refl _, ⟨fun _ c hc => by simp at hc, fun _ => rfl⟩, Same.refl _⟩ (fun i ys σ H' hi ⟨_, e, _, S⟩ => ⟨Nat.le_trans (show _ ≤ 1000 by omega) (by decide), SqL.of (S _ _ hl6)⟩) ?_ ?_⟩
        case refine_2 =>
          rintro j x ys σ H' hx ⟨⟨o, rfl⟩, ly, ev, S⟩
          obtain ⟨pc, c, rfl, ec, hc⟩ := boxes_at hB (A6.trans S) hx
          have tk : bs.take (j + 1) = bs.take j ++ [c] := by rw [List.take_add_one, ec]; rfl
          dsimp only [gName]
          refine (tst_and (tst_of (by exact evl_I0 (evl_ixT (evl_var rfl) (evl_var rfl) (SqT.of hc) (ix c).1) (evl_var rfl))) (tst_of (by exact evl_I0 (evl_var rfl) (evl_ixT (evl_var rfl) (evl_I0 (evl_var rfl) evl_c) (SqT.of hc) (ix c).2)))) _ ?_
          refine ite2 (fun c2 => ?_) (fun c2 => ?_)
          · have c2 := of_decide_eq_true c2
            refine ⟨_, rfl, ⟨_, rfl⟩, by rw [List.length_append]; show ys.length + 1 ≤ j + 1; omega, ⟨fun z => by simp at z, fun z => absurd c2 (z c (by rw [tk]; exact List.mem_append_right _ List.mem_cons_self))⟩, S⟩
          · have c2 : ¬ ((fl c).l < (fl b).l ∧ (fl b).l < (fl c).r) := fun z => c2 (decide_eq_true z)
            refine ⟨⟨_, rfl⟩, by omega, ?_, S⟩
            rw [tk, ev]
            refine ⟨fun z d hd => ?_, fun z d hd => z d (List.mem_append_left _ hd)⟩
            rcases List.mem_append.mp hd with h | h
            · exact z d h
            · rw [List.mem_singleton.mp h]
              exact c2
        rintro ys σ H7 ⟨_, ly, ev, S7⟩ l2 nl2
        rw [lu, List.take_length] at ev
        have hl2' : upd H7 l2 (.lst ys) l2 = some (.lst ys) := upd_same
        have S8 := S7.trans (same_new (o := .lst ys) nl2)
        generalize upd H7 l2 (.lst ys) = H8 at hl2' S8
        refine run_gname ?_
        dsimp only
        have iff : HC fl bs b ↔ (fl bm).l < (fl b).l ∧ ys = [] := by
          constructor
          · rintro ⟨⟨c, hc, lt⟩, n⟩
            have := hle _ (List.mem_map.mpr ⟨c, hc, rfl⟩)
            exact ⟨by omega, ev.mpr n⟩
          · rintro ⟨lt, n⟩
            exact ⟨⟨bm, hbm, lt⟩, ev.mp n⟩
        have hb : b ∈ bs := List.mem_of_getElem? eb
        have tk : bs.take (i + 1) = bs.take i ++ [b] := by rw [List.take_add_one, eb]; rfl
        have next : ¬ HC fl bs b → ∀ d ∈ bs.take (i + 1), ¬ HC fl bs d := fun nb d hd => by
          rw [tk] at hd
          rcases List.mem_append.mp hd with h | h
          · exact no d h
          · rw [List.mem_singleton.mp h]
            exact nb
        refine ⟨_, rfl, _, rfl, _, _, rfl, rfl, _, rfl, ?_⟩
        refine ite2 (fun c1 => ?_) (fun c1 => ?_)
        · have c1 := of_decide_eq_true c1
          refine ⟨_, rfl, by show 0 ≤ sizeLine; decide, fun le nle => ?_⟩
          have S9 := same_new (o := .lst []) nle
          have he : upd H8 le (.lst []) le = some (.lst []) := upd_same
          have hl2' := S9 _ _ hl2'
          have S9 := S8.trans S9
          generalize upd H8 le (.lst []) = H9 at he hl2' S9
          refine ⟨_, _, 1, _, rfl, rfl, eq_empty hl2' he, by decide, _, rfl, ?_⟩
          by_cases e : ys = []
          · rw [decide_eq_true e]
            exact iteT (q true H9 (A6.trans S9) ⟨fun _ => ⟨b, hb, iff.mpr ⟨c1, e⟩⟩, fun _ => rfl⟩)
          · rw [decide_eq_false e]
            exact iteF ⟨_, _, rfl, S6.trans S9, next fun z => e (iff.mp z).2⟩
        · have c1 : ¬ (fl bm).l < (fl b).l := fun z => c1 (decide_eq_true z)
          exact ⟨_, _, rfl, S6.trans S8, next fun z => c1 (iff.mp z).1⟩
    · rintro σ H6 ⟨o4, o5, rfl, S6, no⟩
      rw [List.length_map, List.take_length] at no
      exact q false H6 (A4.trans S6) ⟨fun z => (nomatch z), fun ⟨b, hb, z⟩ => absurd z (no b hb)⟩
theorem scLwo : FnScope ["boxes", "left", "top"] ["boxes"] (defScope sLwo) := ⟨rfl, rfl, rfl, by decide +kernel, rfl, by decide +kernel, by decide +kernel⟩
theorem ok_lwo {f : Addr} {fd : FuncData} (F : Fun K "_law_whole_of" "_law_whole_of" sLwo f fd) (tmin : mg "min" = none) (tmax : mg "max" = none) : FnOk P w K mg base CX0 1 f fd ["boxes"] spLwo := by
  refine F.ok scLwo (fun vs H Q E h => ?_) (fun cdv A outer s H vs Q E hr h => ?_)
  · obtain ⟨l, us, bs, rfl, _⟩ := h
    rfl
  · obtain ⟨l, us, bs, rfl, hl, hB, l0, l24, q⟩ := h
    refine ⟨_, (pss_cons (ps_set (i := 1) scLwo.nd rfl (Or.inl rfl) (pe_callB (call_minL rfl) (by rfl) tmin PyProof.Rows.boot_min (pa_cons (pe_comp (Nc := ["box"]) (ix := [none]) rfl rfl (by refine' pi_list ?zz; case zz => exact (pv 0)) (fun _ _ _ _ _ => (pg_name (i := 0) (by show (["box"] : List Str).Nodup; decide +kernel) rfl (Or.inl rfl))) (fun _ _ _ _ _ => pts_nil) (fun _ _ _ _ _ => (pe_ix (ix_tupK (K := K) rfl) (pv 0) pe_int (fun _ _ => rfl)))) pa_nil)))
      (pss_cons (ps_set (i := 2) scLwo.nd rfl (Or.inl rfl) (pe_callB (call_minL rfl) (by rfl) tmin PyProof.Rows.boot_min (pa_cons (pe_comp (Nc := ["box"]) (ix := [none]) rfl rfl (by refine' pi_list ?zz; case zz => exact (pv 0)) (fun _ _ _ _ _ => (pg_name (i := 0) (by show (["box"] : List Str).Nodup; decide +kernel) rfl (Or.inl rfl))) (fun _ _ _ _ _ => pts_nil) (fun _ _ _ _ _ => (pe_ix (ix_tupK (K := K) rfl) (pv 0) pe_int (fun _ _ => rfl)))) pa_nil)))
      (pss_one (ps_ret (pe_tup (pa_cons (pv 1) (pa_cons (pv 2) (pa_cons (pe_callB (call_maxL rfl) (by rfl) tmax PyProof.Rows.boot_max (pa_cons (pe_comp (Nc := ["box"]) (ix := [none]) rfl rfl (by refine' pi_list ?zz; case zz => exact (pv 0)) (fun _ _ _ _ _ => (pg_name (i := 0) (by show (["box"] : List Str).Nodup; decide +kernel) rfl (Or.inl rfl))) (fun _ _ _ _ _ => pts_nil) (fun _ _ _ _ _ => (pe_ix (ix_tupK (K := K) rfl) (pv 0) pe_int (fun _ _ => rfl)))) pa_nil)) (pa_cons (pe_callB (call_maxL rfl) (by rfl) tmax PyProof.Rows.boot_max (pa_cons (pe_comp (Nc := ["box"]) (ix := [none]) rfl rfl (by refine' pi_list ?zz; case zz => exact (pv 0)) (fun _ _ _ _ _ => (pg_name (i := 0) (by show (["box"] : List Str).Nodup; decide +kernel) rfl (Or.inl rfl))) (fun _ _ _ _ _ => pts_nil) (fun _ _ _ _ _ => (pe_ix (ix_tupK (K := K) rfl) (pv 0) pe_int (fun _ _ => rfl)))) pa_nil)) pa_nil))))))))), ?_⟩
    have lu := hB.len
    have few : ∀ (g : Til.Bx → V) (i : Nat) (ys : List V), ys = (bs.take i).map g → ys.length ≤ sizeLine := fun g i ys e => by
      rw [e, List.length_map, List.length_take]
      exact Nat.le_trans (show _ ≤ 1000 by omega) (by decide)
    have push : ∀ (g : Til.Bx → V) (i : Nat) (b : Til.Bx), bs[i]? = some b → (bs.take i).map g ++ [g b] = (bs.take (i + 1)).map g := fun g i b eb => by
      rw [List.take_add_one, eb, List.map_append]
      rfl
    refine ⟨_, rfl, l, rfl, ⟨_, SqL.of hl⟩, cmp_list (K := K) (a := l) (xs := us) (fun i ys σ H' => (∃ o, σ = [o]) ∧ ys = (bs.take i).map (fun b => V.int b.l) ∧ Same H H')
      ⟨⟨none, rfl⟩, rfl, Same.refl _⟩ (fun i ys σ H' hi ⟨_, e, S⟩ => ⟨few _ i ys e, SqL.of (S _ _ hl)⟩) ?_ ?_⟩
    case refine_2 =>
      rintro i x ys σ H' hx ⟨⟨o, rfl⟩, e, S⟩
      subst e
      obtain ⟨pb, b, rfl, eb, hb⟩ := boxes_at hB S hx
      dsimp only [gName, tYes]
      refine iteT ?_
      exact ⟨_, rfl, _, _, _, _, rfl, rfl, SqT.of hb, rfl, ⟨_, rfl⟩, push (fun b => V.int b.l) i b eb, S⟩
    rintro ys σ H1 ⟨_, e1, S1⟩ la nla
    rw [lu, List.take_length] at e1
    have hla : upd H1 la (.lst ys) la = some (.lst ((bs.map fun b => b.l).map V.int)) := by rw [upd_same, e1, List.map_map]; rfl
    have S2 := S1.trans (same_new (o := .lst ys) nla)
    generalize upd H1 la (.lst ys) = H2 at hla S2
    refine ⟨la, _, rfl, SqL.of hla, by rw [List.length_map]; exact l0, fun M hM le1 => ?_⟩
    obtain ⟨b1, m1, rfl⟩ := List.mem_map.mp hM
    clear hM hla nla e1
    refine run_gname ?_
    dsimp only
    refine ⟨_, rfl, l, rfl, ⟨_, SqL.of (S2 _ _ hl)⟩, cmp_list (K := K) (a := l) (xs := us) (fun i ys σ H' => (∃ o, σ = [o]) ∧ ys = (bs.take i).map (fun b => V.int b.t) ∧ Same H H')
      ⟨⟨none, rfl⟩, rfl, S2⟩ (fun i ys σ H' hi ⟨_, e, S⟩ => ⟨few _ i ys e, SqL.of (S _ _ hl)⟩) ?_ ?_⟩
    case refine_2 =>
      rintro i x ys σ H' hx ⟨⟨o, rfl⟩, e, S⟩
      subst e
      obtain ⟨pb, b, rfl, eb, hb⟩ := boxes_at hB S hx
      dsimp only [gName, tYes]
      refine iteT ?_
      exact ⟨_, rfl, _, _, _, _, rfl, rfl, SqT.of hb, rfl, ⟨_, rfl⟩, push (fun b => V.int b.t) i b eb, S⟩
    rintro ys σ H3 ⟨_, e3, S3⟩ la nla
    rw [lu, List.take_length] at e3
    have hla : upd H3 la (.lst ys) la = some (.lst ((bs.map fun b => b.t).map V.int)) := by rw [upd_same, e3, List.map_map]; rfl
    have S4 := S3.trans (same_new (o := .lst ys) nla)
    generalize upd H3 la (.lst ys) = H4 at hla S4
    refine ⟨la, _, rfl, SqL.of hla, by rw [List.length_map]; exact l0, fun M hM le2 => ?_⟩
    obtain ⟨b2, m2, rfl⟩ := List.mem_map.mp hM
    clear hM hla nla e3
    refine run_gname ?_
    dsimp only
    refine ⟨_, rfl, _, rfl, ?_⟩
    refine ⟨_, rfl, l, rfl, ⟨_, SqL.of (S4 _ _ hl)⟩, cmp_list (K := K) (a := l) (xs := us) (fun i ys σ H' => (∃ o, σ = [o]) ∧ ys = (bs.take i).map (fun b => V.int b.r) ∧ Same H H')
      ⟨⟨none, rfl⟩, rfl, S4⟩ (fun i ys σ H' hi ⟨_, e, S⟩ => ⟨few _ i ys e, SqL.of (S _ _ hl)⟩) ?_ ?_⟩
    case refine_2 =>
      rintro i x ys σ H' hx ⟨⟨o, rfl⟩, e, S⟩
      subst e
      obtain ⟨pb, b, rfl, eb, hb⟩ := boxes_at hB S hx
      dsimp only [gName, tYes]
      refine iteT ?_
      exact ⟨_, rfl, _, _, _, _, rfl, rfl, SqT.of hb, rfl, ⟨_, rfl⟩, push (fun b => V.int b.r) i b eb, S⟩
    rintro ys σ H5 ⟨_, e5, S5⟩ la nla
    rw [lu, List.take_length] at e5
    have hla : upd H5 la (.lst ys) la = some (.lst ((bs.map fun b => b.r).map V.int)) := by rw [upd_same, e5, List.map_map]; rfl
    have S6 := S5.trans (same_new (o := .lst ys) nla)
    generalize upd H5 la (.lst ys) = H6 at hla S6
    refine ⟨la, _, rfl, SqL.of hla, by rw [List.length_map]; exact l0, fun M hM le3 => ?_⟩
    obtain ⟨b3, m3, rfl⟩ := List.mem_map.mp hM
    clear hM hla nla e5
    refine ⟨_, rfl, l, rfl, ⟨_, SqL.of (S6 _ _ hl)⟩, cmp_list (K := K) (a := l) (xs := us) (fun i ys σ H' => (∃ o, σ = [o]) ∧ ys = (bs.take i).map (fun b => V.int b.b) ∧ Same H H')
      ⟨⟨none, rfl⟩, rfl, S6⟩ (fun i ys σ H' hi ⟨_, e, S⟩ => ⟨few _ i ys e, SqL.of (S _ _ hl)⟩) ?_ ?_⟩
    case refine_2 =>
      rintro i x ys σ H' hx ⟨⟨o, rfl⟩, e, S⟩
      subst e
      obtain ⟨pb, b, rfl, eb, hb⟩ := boxes_at hB S hx
      dsimp only [gName, tYes]
      refine iteT ?_
      exact ⟨_, rfl, _, _, _, _, rfl, rfl, SqT.of hb, rfl, ⟨_, rfl⟩, push (fun b => V.int b.b) i b eb, S⟩
    rintro ys σ H7 ⟨_, e7, S7⟩ la nla
    rw [lu, List.take_length] at e7
    have hla : upd H7 la (.lst ys) la = some (.lst ((bs.map fun b => b.b).map V.int)) := by rw [upd_same, e7, List.map_map]; rfl
    have S8 := S7.trans (same_new (o := .lst ys) nla)
    generalize upd H7 la (.lst ys) = H8 at hla S8
    refine ⟨la, _, rfl, SqL.of hla, by rw [List.length_map]; exact l0, fun M hM le4 => ?_⟩
    obtain ⟨b4, m4, rfl⟩ := List.mem_map.mp hM
    clear hM hla nla e7
    refine ⟨by show 4 ≤ sizeLine; decide, fun tq ntq => ?_⟩
    refine q (.ref tq) ⟨b1.l, b2.t, b3.r, b4.b⟩ _ (S8.trans (same_new ntq)) ⟨tq, rfl, upd_same⟩ ⟨⟨b1, m1, rfl⟩, fun b hb => le1 _ (List.mem_map.mpr ⟨b, hb, rfl⟩)⟩ ⟨⟨b2, m2, rfl⟩, fun b hb => le2 _ (List.mem_map.mpr ⟨b, hb, rfl⟩)⟩ ⟨⟨b3, m3, rfl⟩, fun b hb => le3 _ (List.mem_map.mpr ⟨b, hb, rfl⟩)⟩ ⟨⟨b4, m4, rfl⟩, fun b hb => le4 _ (List.mem_map.mpr ⟨b, hb, rfl⟩)⟩
end
end JC
set_option Elab.async false
set_option linter.all false
set_option maxRecDepth 100000
namespace L2
open PySem PySem.Spec PyProof.Rows PySem.W
end L2
set_option Elab.async false
set_option linter.all false
set_option maxRecDepth 100000
namespace L2
open PySem PySem.Spec PyProof.Rows
end L2
set_option Elab.async false
set_option linter.all false
set_option maxRecDepth 100000
namespace L2
open PySem PySem.Spec PyProof.Rows PySem.W
end L2
set_option Elab.async false
set_option linter.all false
set_option maxRecDepth 100000
namespace L2
open PySem PySem.Spec PyProof.Rows PySem.W
section
variable {X : Cx}
theorem op_isB : OpR X (compareOp .Is) (fun x y H Q => ∃ d : Bool, y = .bl d ∧ flatV x = true ∧ Q (.bl (decide (x = .bl d))) H) := by
  intro pins s σ H x y v u Q I rx ry h
  obtain ⟨d, rfl, hf, q⟩ := h
  cases ry
  cases x with
  | non => cases rx; exact wpAny_pure (fin_bl I q (by cases d <;> rfl))
  | bl c => cases rx; exact is_bool (fin_bl I q (by cases c <;> cases d <;> rfl))
  | int i => obtain ⟨t, rfl⟩ := rx; exact wpAny_pure (fin_bl I q (by cases d <;> rfl))
  | str i => obtain ⟨t, rfl⟩ := rx; exact wpAny_pure (fin_bl I q (by cases d <;> rfl))
  | byt i => cases hf
  | flt i => cases hf
  | ref i => cases hf
  | ty i => cases hf
end
end L2
set_option Elab.async false
set_option linter.all false
set_option maxRecDepth 100000
namespace L2
open PySem PySem.Spec PyProof.Rows PySem.W
section
variable {X : Cx}
theorem op_two {o : Value → Value → Sem Value} {r r' : R2} (h1 : OpR X o r) (h2 : OpR X o r') : OpR X o (fun x y H Q => r x y H Q ∨ r' x y H Q) := by
  intro pins s σ H x y v u Q I rx ry h
  rcases h with h | h
  · exact h1 pins s σ H x y v u Q I rx ry h
  · exact h2 pins s σ H x y v u Q I rx ry h
def rEqTS (K : PySem.W.Frag) : R2 := fun x y H Q => ∃ (a : Addr) (z : Str) (xs : List V), x = .ref a ∧ y = .str z ∧ SqT K H a xs ∧ Q (.bl false) H
theorem op_eqTS (hu : X.A.units + 64 < cLine) : OpR X (compareOp .Eq) (rEqTS X.K) := by
  intro pins s σ H x y v u Q I rx ry h
  obtain ⟨a, z, xs, rfl, rfl, hq, q⟩ := h
  cases rx
  obtain ⟨t, rfl⟩ := ry
  obtain ⟨its, r, p, hz⟩ := I.tuple hq
  exact SeqAt.RcAt.tuple_str z t (show s.heap.IsTuple a its.toArray from p) (by omega) _ _ _ _ ⟨.bl false, H, I, rfl, q⟩
end
end L2
set_option Elab.async false
set_option linter.all false
set_option maxRecDepth 100000
namespace L2
open PySem PySem.Spec PyProof.Rows
end L2
namespace L2
open PySem
section
variable {X : Cx} {K : PySem.W.Frag} {tg : Expr}
theorem pi_listK {l : Expr} {tl : TE} (hK : X.K = K) (hl : PE X l tl) : PI X tg l (iList K tl) := by
  subst hK
  exact pi_list hl
end
end L2
namespace L2
open PySem
end L2
namespace L2
open PySem
end L2
set_option Elab.async false
set_option linter.all false
set_option maxRecDepth 100000
set_option maxHeartbeats 1000000
namespace L2
open PySem
theorem for_zipM {K : PySem.W.Frag} {a b : Addr} {xs ys : List V} {g : TG} {tb : TS} {D : Ends} {σ : St} {H : Hp} (Pv : Nat → St → Hp → Prop) (h0 : Pv 0 σ H) (hq : ∀ i σ H, i ≤ min xs.length ys.length → Pv i σ H → SqL K H a xs ∧ SqL K H b ys)
    (hs : ∀ i x y σ H p, xs[i]? = some x → ys[i]? = some y → Pv i σ H → H p = none → g (.ref p) σ (upd H p (.tup [x, y])) fun σ2 H2 => tb { D with nx := Pv (i + 1), ct := Pv (i + 1), bk := D.nx } σ2 H2) (hd : ∀ σ H, Pv (min xs.length ys.length) σ H → D.nx σ H) :
    ∃ W : Nat → Nat → St → Hp → Prop, (∃ m, W 0 m σ H) ∧ ∀ i m σ H, W i m σ H →
      ((ItZ K a b).stop i H ∧ D.nx σ H) ∨ ((ItZ K a b).go i H ∧ ∃ N : St → Hp → Prop, (∀ σ' H', N σ' H' → ∃ m', m' < m ∧ W (i + 1) m' σ' H') ∧ ∀ x H', (ItZ K a b).yld i H x H' → g x σ H' fun σ2 H2 => tb { D with nx := N, ct := N, bk := D.nx } σ2 H2) := by
  refine ⟨fun i m σ H => m = min xs.length ys.length - i ∧ i ≤ min xs.length ys.length ∧ Pv i σ H, ⟨min xs.length ys.length, by simp, Nat.zero_le _, h0⟩, ?_⟩
  rintro i m σ H ⟨rfl, hi, p⟩
  obtain ⟨z1, z2⟩ := hq i σ H hi p
  by_cases hlt : i < min xs.length ys.length
  · refine .inr ⟨⟨xs, ys, xs[i]'(by omega), ys[i]'(by omega), z1, z2, List.getElem?_eq_getElem _, List.getElem?_eq_getElem _⟩, Pv (i + 1), fun σ' H' p' => ⟨min xs.length ys.length - (i + 1), by omega, rfl, hlt, p'⟩, fun x H' y => ?_⟩
    obtain ⟨q, u, v, hn, e, e2, y1, y2⟩ := y
    subst e e2
    exact hs i u v σ H q (y1 xs z1) (y2 ys z2) p hn
  · have e : i = min xs.length ys.length := by omega
    subst e
    exact .inl ⟨⟨xs, ys, z1, z2, by omega⟩, hd σ H p⟩
end L2
namespace JC
open PySem L2 Til Tre PySem.W
theorem TrOL.get {cs : List Til.Bx} : ∀ {ps : List Til.Bx} {ts : List T} {i : Nat} {t : T}, TrOL cs ps ts → ts[i]? = some t → ∃ q, ps[i]? = some q ∧ TrO cs q t
  | _, _, _, _, .nil, e => by simp at e
  | _, _, 0, _, .cons h r, e => by simp at e; subst e; exact ⟨_, rfl, h⟩
  | _, _, i + 1, _, .cons h r, e => by
    obtain ⟨n, a, b⟩ := TrOL.get (i := i) r (by simpa using e)
    exact ⟨n, by simpa using a, b⟩
theorem last_get : ∀ (us : List Int), us.getLastD 0 = us.getD (us.length - 1) 0
  | [] => rfl
  | [a] => rfl
  | a :: b :: r => by
    have := last_get (b :: r)
    rw [show (a :: b :: r).getLastD 0 = (b :: r).getLastD 0 by simp [List.getLastD], this]
    rfl
theorem pcs_at (p : Til.Bx) {us : List Int} {i : Nat} (h : i + 1 < us.length) : (pcs p us)[i]? = some ⟨us.getD i 0, p.t, us.getD (i + 1) 0, p.b⟩ := by
  unfold pcs
  have e : (us.zip (us.drop 1))[i]? = some (us.getD i 0, us.getD (i + 1) 0) := by
    refine List.getElem?_zip_eq_some.mpr ⟨?_, ?_⟩
    · rw [List.getElem?_eq_getElem (by omega), L2.getD_at (by omega)]
    · rw [List.getElem?_drop, show 1 + i = i + 1 by omega, List.getElem?_eq_getElem h, L2.getD_at h]
  rw [List.getElem?_map, e]
  rfl
theorem parts_ends {cs : List Til.Bx} {p : Til.Bx} {W G : Int} (T : Tiles cs W G) (P : Piece cs p) {k : Str} {ps : List Til.Bx} (h : PartedAs cs p k ps) (l : 1 < ps.length) : ∃ (sd : Int) (fl : Til.Bx → Til.Bx) (us : List Int), ((sd = 0 ∧ fl = id ∧ k = "|") ∨ (sd = 1 ∧ fl = flp ∧ k = "-")) ∧ us.length = ps.length + 1 ∧
    us.getD 0 0 = (fl p).l ∧ us.getD ps.length 0 = (fl p).r ∧ ∀ i < ps.length, ps[i]? = some (fl ⟨us.getD i 0, (fl p).t, us.getD (i + 1) 0, (fl p).b⟩) := by
  have core : ∀ {cs : List Til.Bx} {p : Til.Bx} {us : List Int}, Piece cs p → us.Pairwise (· < ·) → (∀ e, e ∈ us ↔ e = p.l ∨ e = p.r ∨ CutX cs p e) → us.getD 0 0 = p.l ∧ us.getD (us.length - 1) 0 = p.r := fun {cs p us} P up mem => by
    have m1 : p.l ∈ us := (mem _).mpr (.inl rfl)
    have m2 : p.r ∈ us := (mem _).mpr (.inr (.inl rfl))
    have e1 := (ends_le up m1).1
    have e2 := (ends_le up m2).2
    have l0 : 0 < us.length := List.length_pos_of_mem m1
    rw [last_get] at e2
    have h0 : us.headD 0 = us.getD 0 0 := by cases us <;> rfl
    rw [h0] at e1
    have i0 := range_mem P mem (e := us.getD 0 0) (by rw [L2.getD_at l0]; exact List.getElem_mem _)
    have i1 := range_mem P mem (e := us.getD (us.length - 1) 0) (by rw [L2.getD_at (by omega)]; exact List.getElem_mem _)
    exact ⟨by omega, by omega⟩
  obtain ⟨ms, E, h⟩ := h
  rcases h with ⟨rfl, rfl, l1⟩ | ⟨rfl, l1, ns, E2, rfl⟩
  · obtain ⟨up, mem⟩ := unc_mem T P E
    obtain ⟨a, b⟩ := core P up mem
    have pl := pcs_len p (unc id cs p ms)
    refine ⟨0, id, _, .inl ⟨rfl, rfl, rfl⟩, by omega, a, by rw [pl]; exact b, fun i hi => pcs_at p (by omega)⟩
  · obtain ⟨up, mem⟩ := unc_memF T P E2
    obtain ⟨a, b⟩ := core P.flp up mem
    have pl := pcs_len (flp p) (unc flp cs p ns)
    rw [List.length_map] at l ⊢
    refine ⟨1, flp, _, .inr ⟨rfl, rfl, rfl⟩, by omega, a, by rw [pl]; exact b, fun i hi => ?_⟩
    rw [List.getElem?_map, pcs_at (flp p) (by omega)]
    rfl
theorem bx_at {cs : List Til.Bx} {i : Nat} {b : Til.Bx} (h : cs[i]? = some b) : bx cs i = b := by
  unfold bx
  rw [List.getD_eq_getElem?_getD, h]
  rfl
theorem ixs_boxes {cs : List Til.Bx} {p : Til.Bx} {ns : List Nat} (h : ns.Perm (ixs cs p)) (b : Til.Bx) : b ∈ ns.map (bx cs) ↔ b ∈ cs ∧ wthn p b = true := by
  rw [List.mem_map]
  constructor
  · rintro ⟨i, hi, rfl⟩
    obtain ⟨h1, h2⟩ := ixs_mem.mp (h.mem_iff.mp hi)
    exact ⟨(bx_mem h1).1, h2⟩
  · rintro ⟨hb, hw⟩
    obtain ⟨i, hi, e⟩ := List.mem_iff_getElem.mp hb
    have e2 : bx cs i = b := bx_at (by rw [List.getElem?_eq_getElem hi, e])
    exact ⟨i, h.mem_iff.mpr (ixs_mem.mpr ⟨hi, by rw [e2]; exact hw⟩), e2⟩
theorem ixs_pos {cs : List Til.Bx} {p : Til.Bx} {ns : List Nat} (P : Piece cs p) (h : ns.Perm (ixs cs p)) : 0 < ns.length := by
  obtain ⟨b, hb, hw, _⟩ := ends_left P
  have := List.length_pos_of_mem ((ixs_boxes h b).mpr ⟨hb, hw⟩)
  rwa [List.length_map] at this
theorem ixs_few {cs : List Til.Bx} {p : Til.Bx} {ns : List Nat} (h : ns.Perm (ixs cs p)) : ns.length ≤ cs.length := by
  rw [h.length_eq]
  unfold ixs
  have := List.length_filter_le (fun i => wthn p (bx cs i)) (List.range cs.length)
  rwa [List.length_range] at this
def nL (ns : List Nat) : List V := ns.map fun i : Nat => V.int (i : Int)
theorem nL_at {ns : List Nat} {j : Nat} {x : V} (h : (nL ns)[j]? = some x) : ∃ i : Nat, x = .int (i : Int) ∧ ns[j]? = some i := by
  unfold nL at h
  rw [List.getElem?_map] at h
  cases e : ns[j]? with
  | none => rw [e] at h; cases h
  | some i => rw [e] at h; exact ⟨i, (Option.some.inj h).symm, rfl⟩
theorem nL_len (ns : List Nat) : (nL ns).length = ns.length := List.length_map _
def NsAt (lf : Addr) (H : Hp) (v : V) (ns : List Nat) : Prop := ∃ a, v = .ref a ∧ a ≠ lf ∧ H a = some (.lst (nL ns))
theorem ns_same {lf : Addr} {H H' : Hp} (S : Same H H') {ys : List V} {nss : List (List Nat)} (h : Paired (NsAt lf H) ys nss) : Paired (NsAt lf H') ys nss := Paired.imp' (fun _ _ ⟨a, e, n, z⟩ => ⟨a, e, n, S _ _ z⟩) h
theorem ns_upd {lf : Addr} {H : Hp} {o : HO} {ys : List V} {nss : List (List Nat)} (h : Paired (NsAt lf H) ys nss) : Paired (NsAt lf (upd H lf o)) ys nss := Paired.imp' (fun _ _ ⟨a, e, n, z⟩ => ⟨a, e, n, by rw [upd_ne n]; exact z⟩) h
theorem flat_perm {cs : List Til.Bx} : ∀ {nss : List (List Nat)} {ps : List Til.Bx}, Paired (fun (ns : List Nat) (q : Til.Bx) => ns.Perm (ixs cs q)) nss ps → nss.flatten.Perm (ps.map (ixs cs)).flatten
  | _, _, .nil => .refl _
  | _, _, .cons h r => by
    rw [List.flatten_cons, List.map_cons, List.flatten_cons]
    exact h.append (flat_perm r)
theorem cutK_flp {cs : List Til.Bx} {p : Til.Bx} {k : Str} {W G : Int} (T : Tiles cs W G) (P : Piece cs p) {ps : List Til.Bx} (h : PartedAs cs p k ps) (e : k = "-") : ¬ ∃ e, CutX cs p e := by
  obtain ⟨ms, E, h⟩ := h
  rcases h with ⟨rfl, rfl, l⟩ | ⟨rfl, l, ns, E2, rfl⟩
  · exact absurd e bar_dash
  · intro z
    have := (unc_id T P E).mpr z
    omega
def spTog (d : Nat) : Sp := fun vs H Q _ => ∃ (tb : Addr) (x : V) (ab : Str) (us : List V) (cs : List Til.Bx) (W G : Int) (p : Til.Bx) (t : T), vs = [.ref tb, x, .str ab] ∧ TpF H tb us ∧ BoxesAt H us cs ∧ cs.length ≤ 24 ∧ Tiles cs W G ∧ At H x t ∧ TrO cs p t ∧ Piece cs p ∧ (cs.filter (wthn p)).length ≤ d ∧ d ≤ 24 ∧ ¬ CutK cs p ab ∧
  ∀ (l : Addr) (ns : List Nat) (H' : Hp), Same H H' → H l = none → H' l = some (.lst (nL ns)) → ns.Perm (ixs cs p) → Q (.ref l) H'
section
variable {P : Program} {w : World} {K : PySem.W.Frag} {mg : Str → Option Value} {base : Heap}
theorem scTog : FnScope ["boxes", "tree", "above", "found", "part", "some", "pieces", "first", "one", "other", "told"] ["boxes", "tree", "above"] (defScope sTog) := ⟨rfl, rfl, rfl, by decide +kernel, rfl, by decide +kernel, by decide +kernel⟩
theorem ok_tog0 {f : Addr} {fd : FuncData} (F : Fun K "_law_together" "_law_together" sTog f fd) : FnOk P w K mg base CX0 2 f fd ["boxes", "tree", "above"] (spTog 0) := by
  refine F.ok scTog (fun vs H Q E h => ?_) (fun cdv A outer s H vs Q E hr h => ?_)
  · obtain ⟨tb, x, ab, us, cs, W, G, p, t, rfl, _⟩ := h
    rfl
  · obtain ⟨tb, x, ab, us, cs, W, G, p, t, rfl, _, _, _, _, _, _, PC, h0, _⟩ := h
    have := some_in PC
    omega
theorem ok_tog1 {f fH fW : Addr} {fd dH dW : FuncData} {d : Nat} (F : Fun K "_law_together" "_law_together" sTog f fd) (Z : Nt K mg) (tzip : mg "zip" = none) (Hc : Callee P w K mg base CX0 1 "_law_has_cut" fH dH ["boxes", "upright"] spLhc) (Wh : Callee P w K mg base CX0 1 "_law_whole_of" fW dW ["boxes"] spLwo)
    (To : Callee P w K mg base CX0 (d + 2) "_law_together" f fd ["boxes", "tree", "above"] (spTog d)) : FnOk P w K mg base CX0 (d + 3) f fd ["boxes", "tree", "above"] (spTog (d + 1)) := by
  obtain ⟨ti, tint, tbool, ttup, tlist, tl, tr, kI, kB, kT⟩ := Z
  refine F.ok scTog (fun vs H Q E h => ?_) (fun cdv A outer s H vs Q E hr h => ?_)
  · obtain ⟨tb, x, ab, us, cs, W, G, p, t, rfl, _⟩ := h
    rfl
  · obtain ⟨tb, x, ab, us, cs, W, G, p, t, rfl, htb, hB, h24, T, hA, hTr, PC, hle, hd, nok, q⟩ := h
    refine ⟨_, (pss_cons (ps_if (pt_not (pt_val (pe_callB call_isi (by rfl) ti PyProof.Rows.boot_isinstance (pa_cons (pv 1) (pa_cons (pe_tyn rfl ttup PyProof.Rows.boot_tuple) pa_nil)))))
      (pss_cons (ps_if (PW.pt (pw_or (pt_not (pt_val (pe_callB call_isi (by rfl) ti PyProof.Rows.boot_isinstance (pa_cons (pv 1) (pa_cons (pe_tyn rfl tint PyProof.Rows.boot_int) pa_nil))))) (pw_or (pt_val (pe_callB call_isi (by rfl) ti PyProof.Rows.boot_isinstance (pa_cons (pv 1) (pa_cons (pe_tyn rfl tbool PyProof.Rows.boot_bool) pa_nil)))) (pw_or1 (pt_not (pt_chain op_le op_lt pe_int (pv 1) (pe_callB call_len_seq (by rfl) tl PySem.boot_len (pa_cons (pv 0) pa_nil))))))))
        (pss_one (ps_ret (pe_lst pa_nil)))
        pss_nil)
        (pss_one (ps_ret (pe_lst (pa_cons (pv 1) pa_nil)))))
      pss_nil)
      (pss_cons (ps_if (PW.pt (pw_or (pt_cmpR op_ne (pe_callB call_len_seq (by rfl) tl PySem.boot_len (pa_cons (pv 1) pa_nil)) pe_int (nomark _)) (pw_or (pt_cmpR op_notIn_seq (pe_ix ix_tup (pv 1) pe_int (fun _ _ => rfl)) (pe_tup (pa_cons pe_str (pa_cons pe_str pa_nil))) rfl) (pw_or (pt_cmpR op_eq (pe_ix ix_tup (pv 1) pe_int (fun _ _ => rfl)) (pv 2) (nomark _)) (pw_or1 (pt_not (pt_val (pe_callB call_isi (by rfl) ti PyProof.Rows.boot_isinstance (pa_cons (pe_ix ix_tup (pv 1) pe_int (fun _ _ => rfl)) (pa_cons (pe_tyn rfl ttup PyProof.Rows.boot_tuple) pa_nil))))))))))
      (pss_one (ps_ret (pe_lst pa_nil)))
      pss_nil)
      (pss_cons (ps_set (i := 3) scTog.nd rfl (Or.inl rfl) (pe_lst pa_nil))
      (pss_cons (ps_for PassesOwn.never rfl (pi_tup (pe_ix ix_tup (pv 1) pe_int (fun _ _ => rfl))) (pg_name (i := 4) scTog.nd rfl (Or.inl rfl))
      (pss_cons (ps_set (i := 5) scTog.nd rfl (Or.inl rfl) (pe_call To.ok hr rfl To.bound To.kp To.bd .nil pass0 (pa_cons (pv 0) (pa_cons (pv 4) (pa_cons (pe_ix ix_tup (pv 1) pe_int (fun _ _ => rfl)) pa_nil)))))
        (pss_cons (ps_if (pt_cmpR (op_eqR hr.units) (pv 5) (pe_lst pa_nil) (nomark _))
        (pss_one (ps_ret (pe_lst pa_nil)))
        pss_nil)
        (pss_one (ps_expr (pe_bm PySem.F.plainAttrs_list PySem.F.slot_list_append PySem.F.type_list_append mt_append (pv 3) (pa_cons (pv 5) pa_nil)))))))
      (pss_cons (ps_comp (i := 6) (Nc := ["some", "boxes"]) (ix := [none, some 0]) scTog.nd rfl (Or.inl rfl) rfl rfl (by refine' pi_list ?zz; case zz => exact (pv 3)) (fun _ _ _ _ _ => (pg_name (i := 0) (by show (["some", "boxes"] : List Str).Nodup; decide +kernel) rfl (Or.inl rfl))) (fun _ _ _ _ _ => pts_nil) (fun _ _ _ _ _ => (pe_call Wh.ok (hr.mono (by omega)) rfl Wh.bound Wh.kp Wh.bd .nil pass0 (pa_cons (pe_comp (Nc := ["k", "boxes"]) (ix := [none, some 1]) rfl rfl (by refine' pi_listK (K := K) rfl ?zz; case zz => exact (pv 0)) (fun _ _ _ _ _ => (pg_name (i := 0) (by show (["k", "boxes"] : List Str).Nodup; decide +kernel) rfl (Or.inl rfl))) (fun _ _ _ _ _ => pts_nil) (fun _ _ _ _ _ => (pe_ix (ix_tupK (K := K) rfl) (pv 1) (pv 0) (fun _ _ => rfl)))) pa_nil))))
      (pss_cons (ps_set (i := 7) scTog.nd rfl (Or.inl rfl) (pe_callTy call_intB rfl tint PyProof.Rows.boot_int (pa_cons (pe_cmpR op_eq (pe_ix ix_tup (pv 1) pe_int (fun _ _ => rfl)) pe_str (nomark _)) pa_nil)))
      (pss_cons (ps_for PassesOwn.never rfl (pi_zip rfl tzip (pa_cons (pv 6) (pa_cons (pe_slice sl_list (pv 6) (po_some pe_int) po_none) pa_nil))) (pg_tup rfl (pgs_cons (pg_name (i := 8) scTog.nd rfl (Or.inl rfl)) (pgs_cons (pg_name (i := 9) scTog.nd rfl (Or.inl rfl)) pgs_nil)))
      (pss_cons (ps_if (PW.pt (pw_or (pt_cmpR op_ne (pe_ix ix_tup (pv 8) (pe_op op_add (pv 7) pe_int) (fun _ _ => rfl)) (pe_ix ix_tup (pv 9) (pv 7) (fun _ _ => rfl)) (nomark _)) (pw_or1 (pt_cmpR op_ne (pe_ix ix_tup (pv 8) (pe_op op_sub pe_int (pv 7)) (fun _ _ => rfl)) (pe_ix ix_tup (pv 9) (pe_op op_sub pe_int (pv 7)) (fun _ _ => rfl)) (nomark _)))))
        (pss_one (ps_ret (pe_lst pa_nil)))
        pss_nil)
        (pss_one (ps_if (pt_cmpR op_ne (pe_ix ix_tup (pv 8) (pe_op op_sub pe_int (pv 7)) (fun _ _ => rfl)) (pe_ix ix_tup (pv 9) (pe_op op_sub pe_int (pv 7)) (fun _ _ => rfl)) (nomark _))
        (pss_one (ps_ret (pe_lst pa_nil)))
        pss_nil))))
      (pss_cons (ps_set (i := 10) scTog.nd rfl (Or.inl rfl) (pe_lst pa_nil))
      (pss_cons (ps_for PassesOwn.never rfl (pi_list (pv 3)) (pg_name (i := 5) scTog.nd rfl (Or.inl rfl))
      (pss_one (ps_expr (pe_bm PySem.F.plainAttrs_list PySem.F.slot_list_extend PySem.F.type_list_extend mt_extend (pv 10) (pa_cons (pv 5) pa_nil)))))
      (pss_cons (ps_if (PW.pt (pw_or (pt_cmpR op_lt (pe_callB call_len_seq (by rfl) tl PySem.boot_len (pa_cons (pv 3) pa_nil)) pe_int (nomark _)) (pw_or1 (PW.pt (pw_and (pt_cmpR op_eq (pe_ix ix_tup (pv 1) pe_int (fun _ _ => rfl)) pe_str (nomark _)) (pw_and1 (pt_val (pe_call Hc.ok (hr.mono (by omega)) rfl Hc.bound Hc.kp Hc.bd .nil pass0 (pa_cons (pe_comp (Nc := ["k", "boxes"]) (ix := [none, some 0]) rfl rfl (by refine' pi_list ?zz; case zz => exact (pv 10)) (fun _ _ _ _ _ => (pg_name (i := 0) (by show (["k", "boxes"] : List Str).Nodup; decide +kernel) rfl (Or.inl rfl))) (fun _ _ _ _ _ => pts_nil) (fun _ _ _ _ _ => (pe_ix (ix_tupK (K := K) rfl) (pv 1) (pv 0) (fun _ _ => rfl)))) (pa_cons pe_bl pa_nil))))))))))
      (pss_one (ps_ret (pe_lst pa_nil)))
      pss_nil)
      (pss_cons (ps_if (PW.pt (pw_and (pt_cmpR op_eq (pv 2) pe_str (nomark _)) (pw_and1 (pt_val (pe_call Hc.ok (hr.mono (by omega)) rfl Hc.bound Hc.kp Hc.bd .nil pass0 (pa_cons (pe_comp (Nc := ["k", "boxes"]) (ix := [none, some 0]) rfl rfl (by refine' pi_list ?zz; case zz => exact (pv 10)) (fun _ _ _ _ _ => (pg_name (i := 0) (by show (["k", "boxes"] : List Str).Nodup; decide +kernel) rfl (Or.inl rfl))) (fun _ _ _ _ _ => pts_nil) (fun _ _ _ _ _ => (pe_ix (ix_tupK (K := K) rfl) (pv 1) (pv 0) (fun _ _ => rfl)))) (pa_cons pe_bl pa_nil)))))))
      (pss_one (ps_ret (pe_lst pa_nil)))
      pss_nil)
      (pss_one (ps_ret (pv 10)))))))))))))), ?_⟩
    have lu := hB.len
    refine ⟨_, rfl, _, _, _, _, rfl, rfl, hA.ty, kT t, _, rfl, ?_⟩
    have hgood := (hTr.good T PC)
    cases hTr with
    | @leaf _ i hi =>
      cases hA
      have hil := (List.getElem?_eq_some_iff.mp hi).1
      refine iteT ?_
      refine ⟨_, rfl, _, _, _, _, rfl, rfl, .of (.int _), kI (.int i), _, rfl, iteF ?_⟩
      refine ⟨_, rfl, _, _, _, _, rfl, rfl, .of (.int _), kB (.int i), _, rfl, iteF ?_⟩
      refine (evl_chain (f := fun i j => decide (i ≤ j)) (g := fun i j => decide (i < j)) (i := 0) (j := (i : Int)) (k := (us.length : Int)) evl_c (evl_var rfl) (evl_lenT (evl_var rfl) htb.sq)) _ ⟨_, rfl, ?_⟩
      rw [decide_eq_true (show (0 : Int) ≤ (i : Int) by omega), decide_eq_true (show (i : Int) < (us.length : Int) by omega)]
      refine iteF ?_
      refine run_next ?_
      dsimp only
      refine ⟨_, rfl, by show 1 ≤ sizeLine; decide, fun l nl => ?_⟩
      exact q l [i] _ (same_new nl) nl upd_same (by rw [ixs_box T hi])
    | @node _ k ps ts hno hp l hTL =>
      cases hA with
      | @tup a0 vs0 ss e hL =>
      obtain ⟨b0, ws, rfl, e2, hQ⟩ := hL.knot
      have lq := hQ.len
      have lt := hTL.len
      have l48 := hp.len
      obtain ⟨sd, fl, vs, hsd, lvs, u0, uN, hat⟩ := parts_ends T PC hp l
      obtain ⟨_, _, _, hk⟩ := hgood
      have ck : CutK cs p k := hk k ⟨_, rfl⟩
      clear hk
      have nk : k ≠ ab := fun z => nok (z ▸ ck)
      have ik : inV (.str k) [V.str "|", .str "-"] = true := by
        rcases hsd with ⟨_, _, rfl⟩ | ⟨_, _, rfl⟩ <;> decide +kernel
      refine iteF ?_
      refine run_next ?_
      dsimp only
      refine ⟨_, rfl, _, _, rfl, .inr (SqT.of e), rfl, _, rfl, iteF ?_⟩
      refine ⟨_, rfl, _, _, _, _, rfl, rfl, SqT.of e, rfl, by show 2 ≤ sizeLine; decide, fun tk ntk => ?_⟩
      have S1 := same_new (o := .tup [V.str "|", .str "-"]) ntk
      have htk : upd H tk (.tup [V.str "|", .str "-"]) tk = some (.tup [V.str "|", .str "-"]) := upd_same
      generalize upd H tk (.tup [V.str "|", .str "-"]) = H1 at S1 htk
      refine ⟨tk, _, rfl, .inr (SqT.of htk), rfl, rfl, _, rfl, ?_⟩
      rw [ik]
      refine iteF ?_
      refine ⟨_, rfl, _, _, _, _, rfl, rfl, SqT.of (S1 _ _ e), rfl, _, rfl, rfl, _, rfl, ?_⟩
      rw [decide_eq_false (fun z => nk (by injection z))]
      refine iteF ?_
      refine ⟨_, rfl, _, _, _, _, rfl, rfl, SqT.of (S1 _ _ e), rfl, _, _, _, _, rfl, rfl, .of (.tup (S1 _ _ e2)), kT (.tup ts), _, rfl, iteF ?_⟩
      refine run_next ?_
      dsimp only
      refine ⟨by show 0 ≤ sizeLine; decide, fun lf nlf => ?_⟩
      have flf : H lf = none := no_old S1 nlf
      have S2 := S1.trans (same_new (o := .lst []) nlf)
      have hlf : upd H1 lf (.lst []) lf = some (.lst []) := upd_same
      generalize upd H1 lf (.lst []) = H2 at S2 hlf
      clear nlf htk ntk S1
      refine run_gname ?_
      dsimp only
      refine ⟨_, rfl, _, _, _, _, rfl, rfl, SqT.of (S2 _ _ e), rfl, b0, rfl, ⟨_, SqT.of (S2 _ _ e2)⟩, ?_⟩
      refine for_tup (K := K) (a := b0) (xs := ws) (fun i σ H3 => ∃ (o4 o5 : Option V) (ys : List V) (nss : List (List Nat)), σ = [some (.ref tb), some (.ref a0), some (.str ab), some (.ref lf), o4, o5, none, none, none, none, none] ∧ Same H H3 ∧ H3 lf = some (.lst ys) ∧ Paired (NsAt lf H3) ys nss ∧ Paired (fun (ns : List Nat) (q : Til.Bx) => ns.Perm (ixs cs q)) nss (ps.take i))
        ⟨none, none, [], [], rfl, S2, hlf, .nil, .nil⟩ (fun i σ H3 _ ⟨_, _, _, _, _, S, _⟩ => SqT.of (S _ _ e2)) ?_ ?_
      · rintro i y σ H3 hy ⟨o4, o5, ys, nss, rfl, S3, hlf3, hN, hPm⟩
        obtain ⟨pt, ep, hAp⟩ := hQ.get hy
        obtain ⟨qb, eq, hTq⟩ := hTL.get ep
        obtain ⟨pq, few, n1, n2⟩ := parts_ok T PC hp (List.mem_of_getElem? eq)
        have few := few l
        have hi : i < ps.length := (List.getElem?_eq_some_iff.mp eq).1
        refine run_gname ?_
        dsimp only
        have nokq : ¬ CutK cs qb k := fun z => by
          rcases z with ⟨z1, z2⟩ | ⟨z1, z2⟩
          · exact n1 z1 z2
          · exact n2 z1 z2
        refine ⟨_, rfl, _, rfl, _, rfl, _, _, _, _, rfl, rfl, SqT.of (S3 _ _ e), rfl, tb, y, k, us, cs, W, G, qb, pt, rfl, TpF.same S3 htb, hB.same S3, h24, T, hAp.same S3, hTq, pq, by omega, by omega, nokq, fun l1 ns H4 S4 nl1 hl1 pm => ?_⟩
        refine run_gname ?_
        dsimp only
        refine ⟨_, rfl, by show 0 ≤ sizeLine; decide, fun le nle => ?_⟩
        have S5 := same_new (o := .lst []) nle
        have he : upd H4 le (.lst []) le = some (.lst []) := upd_same
        have hl5 := S5 _ _ hl1
        have S5 := S4.trans S5
        generalize upd H4 le (.lst []) = H5 at he hl5 S5
        refine ⟨_, _, 1, _, rfl, rfl, eq_empty hl5 he, by decide, _, rfl, ?_⟩
        have np := ixs_pos pq pm
        rw [decide_eq_false (fun z => by have := congrArg List.length z; rw [nL_len] at this; simp at this; rw [this] at np; simp at np)]
        refine iteF ?_
        refine run_next ?_
        dsimp only
        have hlf5 := S5 _ _ hlf3
        have ly : ys.length = i := by
          have a1 := Paired.length hN
          have a2 := Paired.length hPm
          rw [List.length_take] at a2
          omega
        refine ⟨_, rfl, .inl ⟨rfl, _, SqL.of hlf5⟩, _, rfl, lf, ys, _, rfl, rfl, hlf5, Nat.lt_of_le_of_lt (show ys.length ≤ 1000 by omega) (by decide), ?_⟩
        refine ⟨_, _, ys ++ [.ref l1], nss ++ [ns], rfl, same_upd (S3.trans S5) flf, upd_same, ns_upd (Paired.snoc (ns_same S5 hN) ⟨l1, rfl, (ne_of_none hlf3 nl1).symm, hl5⟩), ?_⟩
        rw [List.take_add_one, eq]
        exact Paired.snoc hPm pm
      · rintro σ H3 ⟨o4, o5, ys, nss, rfl, S3, hlf3, hN, hPm⟩
        rw [lq, lt, List.take_length] at hPm
        have ly : ys.length = ps.length := (Paired.length hN).trans (Paired.length hPm)
        have mkbx : ∀ {H4 : Hp} {ns : List Nat} {qb : Til.Bx} {j : Nat} {x : V}, Same H H4 → ns.Perm (ixs cs qb) → (nL ns)[j]? = some x → ∃ (i : Nat) (v : V), x = .int (i : Int) ∧ ns[j]? = some i ∧ us[i]? = some v ∧ BoxAt H4 v (bx cs i) := fun {H4 ns qb j x} S pm hx => by
          obtain ⟨i, rfl, ei⟩ := nL_at hx
          obtain ⟨h1, h2⟩ := ixs_mem.mp (pm.mem_iff.mp (List.mem_of_getElem? ei))
          obtain ⟨v, hv, hb⟩ := hB.get (bx_mem h1).2
          exact ⟨i, v, rfl, ei, hv, hb.same S⟩
        refine ⟨_, rfl, lf, rfl, ⟨_, SqL.of hlf3⟩, cmp_list (K := K) (a := lf) (xs := ys) (fun i zs σ H4 => (∃ o, σ = [o, some (.ref tb)]) ∧ Same H3 H4 ∧ BoxesAt H4 zs (ps.take i))
          ⟨⟨none, rfl⟩, Same.refl _, .nil⟩ (fun i zs σ H4 hi ⟨_, S, e⟩ => ⟨by rw [e.len, List.length_take]; exact Nat.le_trans (show _ ≤ 1000 by omega) (by decide), SqL.of (S _ _ hlf3)⟩) ?_ ?_⟩
        case refine_2 =>
          rintro i y zs σ H4 hy ⟨⟨o, rfl⟩, S4, hZ⟩
          obtain ⟨ns, en, an, rfl, nan, han⟩ := paired_get' hN hy
          obtain ⟨qb, eq, pm⟩ := paired_get' hPm en
          obtain ⟨pq, _, _, _⟩ := parts_ok T PC hp (List.mem_of_getElem? eq)
          have A4 := S3.trans S4
          have han4 := S4 _ _ han
          have fw := ixs_few pm
          dsimp only [gName, tYes]
          refine iteT ?_
          refine ⟨_, rfl, an, rfl, ⟨_, SqL.of han4⟩, cmp_list (K := K) (a := an) (xs := nL ns) (fun j vs σ H5 => (∃ o, σ = [o, some (.ref tb)]) ∧ Same H4 H5 ∧ BoxesAt H5 vs ((ns.take j).map (bx cs)))
            ⟨⟨none, rfl⟩, Same.refl _, .nil⟩ (fun j vs σ H5 hi ⟨_, S, e⟩ => ⟨by rw [e.len, List.length_map, List.length_take]; exact Nat.le_trans (show _ ≤ 1000 by omega) (by decide), SqL.of (S _ _ han4)⟩) ?_ ?_⟩
          case refine_2 =>
            rintro j x vs σ H5 hx ⟨⟨o, rfl⟩, S5, hV⟩
            obtain ⟨i, v, rfl, ei, hv, hb⟩ := mkbx (A4.trans S5) pm hx
            dsimp only [gName, tYes]
            refine iteT ?_
            refine ⟨_, rfl, _, rfl, _, _, _, _, rfl, rfl, (TpF.same (A4.trans S5) htb).sq, atI_nat hv, ⟨_, rfl⟩, S5, ?_⟩
            rw [List.take_add_one, ei, List.map_append]
            exact Paired.snoc hV hb
          rintro vs σ H5 ⟨_, S5, hV⟩ lv nlv
          rw [nL_len, List.take_length] at hV
          have S6 := same_new (o := .lst vs) nlv
          have hlv : upd H5 lv (.lst vs) lv = some (.lst vs) := upd_same
          have hV := hV.same S6
          have S6 := S5.trans S6
          generalize upd H5 lv (.lst vs) = H6 at S6 hlv hV
          refine ⟨lv, vs, _, rfl, hlv, hV, by rw [List.length_map]; exact ixs_pos pq pm, by rw [List.length_map]; omega, fun v z H7 S7 hz h1 h2 h3 h4 => ?_⟩
          have ez := round_piece pq (ixs_boxes pm) h1 h2 h3 h4
          subst ez
          refine ⟨⟨_, rfl⟩, S4.trans (S6.trans S7), ?_⟩
          rw [List.take_add_one, eq]
          exact Paired.snoc (hZ.same (S6.trans S7)) hz
        rintro zs σ H4 ⟨_, S4, hZ⟩ lp nlp
        rw [ly, List.take_length] at hZ
        have S5 := same_new (o := .lst zs) nlp
        have hlp : upd H4 lp (.lst zs) lp = some (.lst zs) := upd_same
        have hZ := hZ.same S5
        have S5 := S4.trans S5
        generalize upd H4 lp (.lst zs) = H5 at S5 hlp hZ
        clear S4 nlp
        have lz := hZ.len
        have A5 := S3.trans S5
        have e5 := A5 _ _ e
        have hlf5 := S5 _ _ hlf3
        have hN5 := ns_same S5 hN
        refine run_gname ?_
        dsimp only
        have sdk : (if decide (V.str k = V.str "-") then (1 : Int) else 0) = sd := by
          rcases hsd with ⟨rfl, _, rfl⟩ | ⟨rfl, _, rfl⟩
          · rw [decide_eq_false (fun z => bar_dash (by injection z))]
            rfl
          · rw [decide_eq_true rfl]
            rfl
        refine ⟨_, rfl, _, _, _, _, rfl, rfl, SqT.of e5, rfl, ⟨rfl, _, rfl, ?_⟩⟩
        rw [sdk]
        refine run_gname ?_
        dsimp only
        have sdv : ∀ a b c d : Int, atI (bxV (fl ⟨a, b, c, d⟩)) sd = some (.int a) ∧ atI (bxV (fl ⟨a, b, c, d⟩)) (sd + 2) = some (.int c) ∧ atI (bxV (fl ⟨a, b, c, d⟩)) (1 - sd) = some (.int b) ∧ atI (bxV (fl ⟨a, b, c, d⟩)) (3 - sd) = some (.int d) := fun a b c d => by
          rcases hsd with ⟨rfl, rfl, _⟩ | ⟨rfl, rfl, _⟩ <;> exact ⟨rfl, rfl, rfl, rfl⟩
        refine ⟨_, rfl, _, rfl, _, rfl, lp, _, rfl, SqL.of hlp, fun l2 nl2 => ?_⟩
        have ec : cutV zs (some 1) none = zs.drop 1 := cutV_drop zs 1 (by omega)
        rw [ec]
        have S6 := same_new (o := .lst (zs.drop 1)) nl2
        have hl2 : upd H5 l2 (.lst (zs.drop 1)) l2 = some (.lst (zs.drop 1)) := upd_same
        have hlp6 := S6 _ _ hlp
        have hZ6 := hZ.same S6
        generalize upd H5 l2 (.lst (zs.drop 1)) = H6 at S6 hl2 hlp6 hZ6
        refine ⟨lp, l2, rfl, ⟨_, SqL.of hlp6⟩, ⟨_, SqL.of hl2⟩, ?_⟩
        refine for_zipM (K := K) (a := lp) (b := l2) (xs := zs) (ys := zs.drop 1) (fun i σ H7 => ∃ (o8 o9 : Option V), σ = [some (.ref tb), some (.ref a0), some (.str ab), some (.ref lf), o4, o5, some (.ref lp), some (.int sd), o8, o9, none] ∧ Same H6 H7)
          ⟨none, none, rfl, Same.refl _⟩ (fun i σ H7 _ ⟨_, _, _, S⟩ => ⟨SqL.of (S _ _ hlp6), SqL.of (S _ _ hl2)⟩) ?_ ?_
        · rintro i x y σ H7 tp hx hy ⟨o8, o9, rfl, S7⟩ ntp
          rw [List.getElem?_drop, show 1 + i = i + 1 by omega] at hy
          have i1 : i + 1 < ps.length := by
            have := (List.getElem?_eq_some_iff.mp hy).1
            omega
          have St := same_new (o := .tup [x, y]) ntp
          have htp : upd H7 tp (.tup [x, y]) tp = some (.tup [x, y]) := upd_same
          generalize upd H7 tp (.tup [x, y]) = H8 at St htp
          have S8 := S7.trans St
          obtain ⟨px, bx1, rfl, ex, hpx⟩ := boxes_at hZ6 S8 hx
          obtain ⟨py, by1, rfl, ey, hpy⟩ := boxes_at hZ6 S8 hy
          rw [hat i (by omega)] at ex
          rw [hat (i + 1) i1] at ey
          cases ex
          cases ey
          refine ⟨tp, _, rfl, SqT.of htp, rfl, _, _, rfl, _, _, rfl, rfl, ?_⟩
          dsimp only
          refine ⟨_, rfl, _, rfl, _, _, rfl, rfl, _, _, _, _, rfl, rfl, SqT.of hpx, (sdv _ _ _ _).2.1, _, rfl, _, rfl, _, _, _, _, rfl, rfl, SqT.of hpy, (sdv _ _ _ _).1, rfl, _, rfl, ?_⟩
          rw [decide_eq_true rfl]
          refine iteF ?_
          refine ⟨_, rfl, _, rfl, _, _, rfl, rfl, _, _, _, _, rfl, rfl, SqT.of hpx, (sdv _ _ _ _).2.2.1, _, rfl, _, rfl, _, _, rfl, rfl, _, _, _, _, rfl, rfl, SqT.of hpy, (sdv _ _ _ _).2.2.1, rfl, _, rfl, ?_⟩
          rw [decide_eq_true rfl]
          refine iteF ?_
          refine run_next ?_
          dsimp only
          refine ⟨_, rfl, _, rfl, _, _, rfl, rfl, _, _, _, _, rfl, rfl, SqT.of hpx, (sdv _ _ _ _).2.2.2, _, rfl, _, rfl, _, _, rfl, rfl, _, _, _, _, rfl, rfl, SqT.of hpy, (sdv _ _ _ _).2.2.2, rfl, _, rfl, ?_⟩
          rw [decide_eq_true rfl]
          exact iteF ⟨_, _, rfl, S8⟩
        · rintro σ H7 ⟨o8, o9, rfl, S7⟩
          dsimp only
          have S7 := S6.trans S7
          clear hl2 hlp6 hZ6 S6 nl2
          refine ⟨by show 0 ≤ sizeLine; decide, fun lt' nlt => ?_⟩
          have A7 := A5.trans S7
          have flt : H lt' = none := no_old A7 nlt
          have S8 := S7.trans (same_new (o := .lst []) nlt)
          have hlt : upd H7 lt' (.lst []) lt' = some (.lst []) := upd_same
          have ne : lf ≠ lt' := ne_of_none (S7 _ _ hlf5) nlt
          have hNt : Paired (NsAt lt' (upd H7 lt' (.lst []))) ys nss := Paired.imp' (fun v ns ⟨a, ea, na, za⟩ => ⟨a, ea, ne_of_none (S7 _ _ za) nlt, S8 _ _ za⟩) hN5
          generalize upd H7 lt' (.lst []) = H8 at S8 hlt hNt
          clear nlt S7
          refine run_gname ?_
          dsimp only
          have hlf8 := S8 _ _ hlf5
          refine ⟨_, rfl, lf, rfl, ⟨_, SqL.of hlf8⟩, ?_⟩
          refine for_list (K := K) (a := lf) (xs := ys) (fun i σ H9 => ∃ o5' : Option V, σ = [some (.ref tb), some (.ref a0), some (.str ab), some (.ref lf), o4, o5', some (.ref lp), some (.int sd), o8, o9, some (.ref lt')] ∧ Same H H9 ∧ H9 lf = some (.lst ys) ∧ H9 lt' = some (.lst (nL (nss.take i).flatten)) ∧ Paired (NsAt lt' H9) ys nss)
            ⟨_, rfl, A5.trans S8, hlf8, hlt, hNt⟩ (fun i σ H9 _ ⟨_, _, _, z, _⟩ => SqL.of z) ?_ ?_
          · rintro i v σ H9 hv ⟨o5', rfl, S9, hlf9, hlt9, hN9⟩
            obtain ⟨ns, en, an, rfl, nan, han⟩ := paired_get' hN9 hv
            have fl1 : ((nss.take i).flatten ++ ns).length ≤ cs.length := by
              have pm := (flat_perm hPm).trans (parts_ixs T PC hp l)
              have := ixs_few pm
              have es : nss = nss.take i ++ ns :: nss.drop (i + 1) := by
                obtain ⟨hil, ev⟩ := List.getElem?_eq_some_iff.mp en
                rw [← ev, List.getElem_cons_drop, List.take_append_drop]
              rw [es, List.flatten_append, List.flatten_cons, ← List.append_assoc, List.length_append] at this
              omega
            rw [List.length_append] at fl1
            refine run_gname ?_
            dsimp only
            refine ⟨_, rfl, .inl ⟨rfl, _, SqL.of hlt9⟩, _, rfl, lt', an, _, _, rfl, rfl, hlt9, han, by rw [nL_len, nL_len]; exact Nat.le_trans (show _ ≤ 1000 by omega) (by decide), ?_⟩
            refine ⟨_, rfl, same_upd S9 flt, by rw [upd_ne ne]; exact hlf9, ?_, ns_upd hN9⟩
            rw [upd_same, List.take_add_one, en, List.flatten_append]
            show some (HO.lst (nL _ ++ nL ns)) = some (HO.lst (nL ((nss.take i).flatten ++ [ns].flatten)))
            unfold nL
            rw [List.map_append]
            simp
          · rintro σ H9 ⟨o5', rfl, S9, hlf9, hlt9, hN9⟩
            rw [Paired.length hN, List.take_length] at hlt9
            have pm := (flat_perm hPm).trans (parts_ixs T PC hp l)
            have fw := ixs_few pm
            have np := ixs_pos PC pm
            generalize nss.flatten = ms at pm fw np hlt9
            have wfx : ∀ b ∈ cs, b.l < b.r := fun b hb => (T.wf b hb).h1
            have wfy : ∀ b ∈ cs, b.t < b.b := fun b hb => (T.wf b hb).v1
            have mem := ixs_boxes pm
            have iffX := hc_cut PC mem wfx
            have iffY := hc_cutF PC mem wfy
            have comp : ∀ {H10 : Hp}, Same H9 H10 → ∀ {j : Nat} {x : V} {vs : List V}, (nL ms)[j]? = some x → BoxesAt H10 vs ((ms.take j).map (bx cs)) → ∃ (i : Nat) (v : V), x = .int (i : Int) ∧ us[i]? = some v ∧ BoxesAt H10 (vs ++ [v]) ((ms.take (j + 1)).map (bx cs)) := fun {H10} S {j x vs} hx hV => by
              obtain ⟨i, v, rfl, ei, hv, hb⟩ := mkbx (S9.trans S) pm hx
              refine ⟨i, v, rfl, hv, ?_⟩
              rw [List.take_add_one, ei, List.map_append]
              exact Paired.snoc hV hb
            have e9 := S9 _ _ e
            dsimp only
            refine seq_via (G := fun σ' H10 => σ' = [some (.ref tb), some (.ref a0), some (.str ab), some (.ref lf), o4, o5', some (.ref lp), some (.int sd), o8, o9, some (.ref lt')] ∧ Same H9 H10) (fun N k' => ?_) ?_
            · refine ⟨_, rfl, _, _, rfl, .inl (SqL.of hlf9), _, _, rfl, rfl, _, rfl, ?_⟩
              rw [decide_eq_false (show ¬ ((ys.length : Nat) : Int) < 2 by omega)]
              refine iteF ?_
              refine ⟨_, rfl, _, _, _, _, rfl, rfl, SqT.of e9, rfl, rfl, _, rfl, ?_⟩
              refine ite2 (fun c1 => ?_) (fun c1 => iteF ?_)
              · have ek : k = "-" := by
                  have := of_decide_eq_true c1
                  injection this
                refine ⟨_, rfl, lt', rfl, ⟨_, SqL.of hlt9⟩, cmp_list (K := K) (a := lt') (xs := nL ms) (fun j vs σ H5 => (∃ o, σ = [o, some (.ref tb)]) ∧ Same H9 H5 ∧ BoxesAt H5 vs ((ms.take j).map (bx cs)))
                  ⟨⟨none, rfl⟩, Same.refl _, .nil⟩ (fun j vs σ H5 hi ⟨_, S, e⟩ => ⟨by rw [e.len, List.length_map, List.length_take]; exact Nat.le_trans (show _ ≤ 1000 by omega) (by decide), SqL.of (S _ _ hlt9)⟩) ?_ ?_⟩
                case refine_2 =>
                  rintro j x vs σ H5 hx ⟨⟨o, rfl⟩, S5, hV⟩
                  obtain ⟨i, v, rfl, hv, hV2⟩ := comp S5 hx hV
                  dsimp only [gName, tYes]
                  refine iteT ?_
                  exact ⟨_, rfl, _, rfl, _, _, _, _, rfl, rfl, (TpF.same (S9.trans S5) htb).sq, atI_nat hv, ⟨_, rfl⟩, S5, hV2⟩
                rintro vs σ H5 ⟨_, S5, hV⟩ lv nlv
                rw [nL_len, List.take_length] at hV
                have S6 := same_new (o := .lst vs) nlv
                have hlv : upd H5 lv (.lst vs) lv = some (.lst vs) := upd_same
                have hV := hV.same S6
                have S6 := S5.trans S6
                generalize upd H5 lv (.lst vs) = H6 at S6 hlv hV
                refine ⟨lv, true, vs, _, rfl, hlv, hV, by rw [List.length_map]; exact np, by rw [List.length_map]; omega, fun c H7 S7 hc => ?_⟩
                have ec : c = false := by
                  cases c with
                  | false => rfl
                  | true => exact absurd (iffX.mp (hc.mp rfl)) (cutK_flp T PC hp ek)
                subst ec
                refine ⟨_, rfl, iteF ?_⟩
                exact k' _ _ ⟨rfl, S6.trans S7⟩
              · exact k' _ _ ⟨rfl, Same.refl _⟩
            · rintro σ' H10 ⟨rfl, S10⟩
              have hlt10 := S10 _ _ hlt9
              refine ⟨_, rfl, rfl, _, rfl, ?_⟩
              refine ite2 (fun c1 => ?_) (fun c1 => iteF ?_)
              · have ek : ab = "-" := by
                  have := of_decide_eq_true c1
                  injection this
                refine ⟨_, rfl, lt', rfl, ⟨_, SqL.of hlt10⟩, cmp_list (K := K) (a := lt') (xs := nL ms) (fun j vs σ H5 => (∃ o, σ = [o, some (.ref tb)]) ∧ Same H10 H5 ∧ BoxesAt H5 vs ((ms.take j).map (bx cs)))
                  ⟨⟨none, rfl⟩, Same.refl _, .nil⟩ (fun j vs σ H5 hi ⟨_, S, e⟩ => ⟨by rw [e.len, List.length_map, List.length_take]; exact Nat.le_trans (show _ ≤ 1000 by omega) (by decide), SqL.of (S _ _ hlt10)⟩) ?_ ?_⟩
                case refine_2 =>
                  rintro j x vs σ H5 hx ⟨⟨o, rfl⟩, S5, hV⟩
                  obtain ⟨i, v, rfl, hv, hV2⟩ := comp (S10.trans S5) hx hV
                  dsimp only [gName, tYes]
                  refine iteT ?_
                  exact ⟨_, rfl, _, rfl, _, _, _, _, rfl, rfl, (TpF.same (S9.trans (S10.trans S5)) htb).sq, atI_nat hv, ⟨_, rfl⟩, S5, hV2⟩
                rintro vs σ H5 ⟨_, S5, hV⟩ lv nlv
                rw [nL_len, List.take_length] at hV
                have S6 := same_new (o := .lst vs) nlv
                have hlv : upd H5 lv (.lst vs) lv = some (.lst vs) := upd_same
                have hV := hV.same S6
                have S6 := S5.trans S6
                generalize upd H5 lv (.lst vs) = H6 at S6 hlv hV
                refine ⟨lv, false, vs, _, rfl, hlv, hV, by rw [List.length_map]; exact np, by rw [List.length_map]; omega, fun c H7 S7 hc => ?_⟩
                have ec : c = false := by
                  cases c with
                  | false => rfl
                  | true => exact absurd (.inr ⟨ek, iffY.mp (hc.mp rfl)⟩) nok
                subst ec
                refine ⟨_, rfl, iteF ?_⟩
                refine run_next ?_
                dsimp only
                have S67 := S6.trans S7
                exact ⟨_, rfl, q lt' ms H7 (S9.trans (S10.trans S67)) flt (S67 _ _ hlt10) pm⟩
              · refine run_next ?_
                dsimp only
                exact ⟨_, rfl, q lt' ms H10 (S9.trans S10) flt hlt10 pm⟩
theorem ok_tog {f fH fW : Addr} {fd dH dW : FuncData} (F : Fun K "_law_together" "_law_together" sTog f fd) (Z : Nt K mg) (tzip : mg "zip" = none) (Hc : Callee P w K mg base CX0 1 "_law_has_cut" fH dH ["boxes", "upright"] spLhc) (Wh : Callee P w K mg base CX0 1 "_law_whole_of" fW dW ["boxes"] spLwo)
    (bo : mg "_law_together" = some (.ref f)) (kp : PySem.W.keepIn K (.ref f) = true) (bd : Binds K fd ["boxes", "tree", "above"] []) : ∀ d, FnOk P w K mg base CX0 (d + 2) f fd ["boxes", "tree", "above"] (spTog d)
  | 0 => ok_tog0 F
  | d + 1 => ok_tog1 F Z tzip Hc Wh ⟨ok_tog F Z tzip Hc Wh bo kp bd d, bo, kp, bd⟩
end
end JC
set_option Elab.async false
set_option linter.all false
set_option maxRecDepth 100000
set_option maxHeartbeats 1000000
namespace JC
open PySem L2 Til Tre PySem.W
def spLst : Sp := fun vs H Q _ => ∃ (tb : Addr) (u : V) (us : List V) (W G : Int) (cs : List Til.Bx) (s : Til.Bx), vs = [.ref tb, u] ∧ TpF H tb us ∧ BoxesAt H us cs ∧ cs.length ≤ 24 ∧ BoxAt H u s ∧ Tiles cs W G ∧ W ≤ 100000 ∧ IsS cs s ∧ ∀ H', Same H H' → Q (.bl true) H'
theorem lst_within (s b : Til.Bx) : (s.l ≤ b.l ∧ s.t ≤ b.t ∧ b.r ≤ s.r ∧ b.b ≤ s.b) ↔ wthn s b = true := by
  rw [wthn_iff]
  exact ⟨fun ⟨a, b, c, d⟩ => ⟨a, c, b, d⟩, fun ⟨a, b, c, d⟩ => ⟨a, c, b, d⟩⟩
def spLaw (K : PySem.W.Frag) : Sp := fun vs H Q _ => ∃ (a : Addr) (ns : List Int), vs = [.ref a] ∧ SqL K H a (ns.map V.int) ∧ ns.length ≤ 63 ∧ ∀ H', Q (.bl true) H'
theorem eq_ints {K : PySem.W.Frag} {H : Hp} {a c : Addr} {ms ns : List Int} (ha : SqL K H a (ms.map V.int)) (hc : SqL K H c (ns.map V.int)) : EqR K H 1 (.ref a) (.ref c) (decide (ms = ns)) := by
  by_cases hl : ms.length = ns.length
  · have fl : ∀ (xs : List Int) (j : Nat), j < (xs.map V.int).length → (xs.map V.int).getD j .non = .int (xs.getD j 0) := fun xs j hj => by
      rw [List.length_map] at hj
      rw [List.getD_eq_getElem?_getD, List.getElem?_map, List.getElem?_eq_getElem hj, List.getD_eq_getElem?_getD, List.getElem?_eq_getElem hj]
      rfl
    have := EqR.lsts (K := K) (H := H) (n := 0) (e := fun j => eqV (.int (ms.getD j 0)) (.int (ns.getD j 0))) ha hc (by rw [List.length_map, List.length_map]; exact hl) fun j hj => by
      rw [fl ms j hj, fl ns j (by rw [List.length_map] at hj ⊢; omega)]
      exact .flat rfl rfl
    have e : (List.range (ms.map V.int).length).all (fun j => eqV (.int (ms.getD j 0)) (.int (ns.getD j 0))) = decide (ms = ns) := by
      rw [Bool.eq_iff_iff, decide_eq_true_eq, List.all_eq_true, List.length_map]
      constructor
      · intro h
        apply List.ext_getElem hl
        intro i h1 h2
        have := h i (List.mem_range.mpr h1)
        have this : (ms.getD i 0 == ns.getD i 0) = true := this
        rw [beq_iff_eq, List.getD_eq_getElem?_getD, List.getD_eq_getElem?_getD, List.getElem?_eq_getElem h1, List.getElem?_eq_getElem h2] at this
        exact this
      · rintro rfl j _
        show (ms.getD j 0 == ms.getD j 0) = true
        rw [beq_iff_eq]
    rw [← e]
    exact this
  · rw [decide_eq_false (fun z => hl (by rw [z]))]
    exact EqR.lens (n := 0) ha hc (by rw [List.length_map, List.length_map]; exact hl)
theorem up_up (n : Nat) : (up n).Pairwise (· ≤ ·) := by
  unfold up
  rw [List.pairwise_map]
  exact List.pairwise_lt_range.imp fun h => by omega
theorem srt_same : ∀ {a b : List Int}, a.Perm b → a.Pairwise (· ≤ ·) → b.Pairwise (· ≤ ·) → a = b
  | [], b, p, _, _ => (List.nil_perm.mp p).symm
  | x :: a, [], p, _, _ => absurd p.length_eq (by simp)
  | x :: a, y :: b, p, u, v => by
    obtain ⟨u1, u2⟩ := List.pairwise_cons.mp u
    obtain ⟨v1, v2⟩ := List.pairwise_cons.mp v
    have e : x = y := by
      rcases List.mem_cons.mp (p.mem_iff.mp (List.mem_cons_self (a := x))) with z | z
      · exact z
      · rcases List.mem_cons.mp (p.mem_iff.mpr (List.mem_cons_self (a := y))) with z2 | z2
        · exact z2.symm
        · have := u1 y z2
          have := v1 x z
          omega
    subst e
    rw [srt_same (List.perm_cons x |>.mp p) u2 v2]
section
variable {P : Program} {w : World} {K : PySem.W.Frag} {mg : Str → Option Value} {base : Heap}
theorem scLst : FnScope ["boxes", "piece", "left", "top", "right", "below", "some", "places"] ["boxes", "piece"] (defScope sLst) := ⟨rfl, rfl, rfl, by decide +kernel, rfl, by decide +kernel, by decide +kernel⟩
theorem ok_lst {f fH : Addr} {fd dH : FuncData} (F : Fun K "_law_is_stuck" "_law_is_stuck" sLst f fd) (Z : Nt K mg) (tsum : mg "sum" = none) (Hc : Callee P w K mg base CX0 1 "_law_has_cut" fH dH ["boxes", "upright"] spLhc) : FnOk P w K mg base CX0 2 f fd ["boxes", "piece"] spLst := by
  obtain ⟨ti, tint, tbool, ttup, tlist, tl, tr, kI, kB, kT⟩ := Z
  refine F.ok scLst (fun vs H Q E h => ?_) (fun cdv A outer st H vs Q E hr h => ?_)
  · obtain ⟨tb, u, us, W, G, cs, s, rfl, _⟩ := h
    rfl
  · obtain ⟨tb, u, vs, W, G, cs, s, rfl, htb, hB, h24, ⟨a, rfl, ha⟩, T, hW, hS, q⟩ := h
    refine ⟨_, (pss_cons (ps_if (PW.pt (pw_or (pt_not (pt_val (pe_callB call_isi (by rfl) ti PyProof.Rows.boot_isinstance (pa_cons (pv 1) (pa_cons (pe_tyn rfl ttup PyProof.Rows.boot_tuple) pa_nil))))) (pw_or1 (pt_cmpR op_ne (pe_callB call_len_seq (by rfl) tl PySem.boot_len (pa_cons (pv 1) pa_nil)) pe_int (nomark _)))))
      (pss_one (ps_ret pe_bl))
      pss_nil)
      (pss_cons (ps_asg (pv 1) (pg_tup rfl (pgs_cons (pg_name (i := 2) scLst.nd rfl (Or.inr rfl)) (pgs_cons (pg_name (i := 3) scLst.nd rfl (Or.inr rfl)) (pgs_cons (pg_name (i := 4) scLst.nd rfl (Or.inr rfl)) (pgs_cons (pg_name (i := 5) scLst.nd rfl (Or.inr rfl)) pgs_nil))))))
      (pss_cons (ps_comp (i := 6) (Nc := ["box", "left", "top", "right", "below"]) (ix := [none, some 2, some 3, some 4, some 5]) scLst.nd rfl (Or.inl rfl) rfl rfl (by exact (pi_tup (pv 0))) (fun _ _ _ _ _ => (pg_name (i := 0) (by show (["box", "left", "top", "right", "below"] : List Str).Nodup; decide +kernel) rfl (Or.inl rfl))) (fun _ _ _ _ _ => (pts_one (PW.pt (pw_and (pt_cmpR op_le (pv 1) (pe_ix (ix_tupK (K := K) rfl) (pv 0) pe_int (fun _ _ => rfl)) (nomark _)) (pw_and (pt_cmpR op_le (pv 2) (pe_ix (ix_tupK (K := K) rfl) (pv 0) pe_int (fun _ _ => rfl)) (nomark _)) (pw_and (pt_cmpR op_le (pe_ix (ix_tupK (K := K) rfl) (pv 0) pe_int (fun _ _ => rfl)) (pv 3) (nomark _)) (pw_and1 (pt_cmpR op_le (pe_ix (ix_tupK (K := K) rfl) (pv 0) pe_int (fun _ _ => rfl)) (pv 4) (nomark _))))))))) (fun _ _ _ _ _ => (pv 0)))
      (pss_cons (ps_set (i := 7) scLst.nd rfl (Or.inl rfl) (pe_callB (call_sumG rfl) (by rfl) tsum PyProof.Rows.boot_sum (pa_cons (pe_comp (Nc := ["box"]) (ix := [none]) rfl rfl (by refine' pi_list ?zz; case zz => exact (pv 6)) (fun _ _ _ _ _ => (pg_name (i := 0) (by show (["box"] : List Str).Nodup; decide +kernel) rfl (Or.inl rfl))) (fun _ _ _ _ _ => pts_nil) (fun _ _ _ _ _ => (pe_op op_mul (pe_op op_sub (pe_ix (ix_tupK (K := K) rfl) (pv 0) pe_int (fun _ _ => rfl)) (pe_ix (ix_tupK (K := K) rfl) (pv 0) pe_int (fun _ _ => rfl))) (pe_op op_sub (pe_ix (ix_tupK (K := K) rfl) (pv 0) pe_int (fun _ _ => rfl)) (pe_ix (ix_tupK (K := K) rfl) (pv 0) pe_int (fun _ _ => rfl)))))) pa_nil)))
      (pss_cons (ps_if (PW.pt (pw_or (pt_cmpR op_lt (pe_callB call_len_seq (by rfl) tl PySem.boot_len (pa_cons (pv 6) pa_nil)) pe_int (nomark _)) (pw_or1 (pt_cmpR op_ne (pv 7) (pe_op op_mul (pe_op op_sub (pv 4) (pv 2)) (pe_op op_sub (pv 5) (pv 3))) (nomark _)))))
      (pss_one (ps_ret pe_bl))
      pss_nil)
      (pss_one (ps_ret (pe_and (pe_not (pe_call Hc.ok hr rfl Hc.bound Hc.kp Hc.bd .nil pass0 (pa_cons (pv 6) (pa_cons pe_bl pa_nil)))) (pe_one (pe_not (pe_call Hc.ok hr rfl Hc.bound Hc.kp Hc.bd .nil pass0 (pa_cons (pv 6) (pa_cons pe_bl pa_nil))))))))))))), ?_⟩
    have t4 := box_four ha K
    have lv := hB.len
    refine ⟨_, rfl, _, _, _, _, rfl, rfl, .of (.tup ha), rfl, _, rfl, iteF ?_⟩
    refine ⟨_, rfl, _, _, rfl, .inr t4, rfl, _, rfl, iteF ?_⟩
    refine run_next ?_
    dsimp only
    refine ⟨_, rfl, a, _, rfl, t4, rfl, _, _, rfl, _, _, rfl, _, _, rfl, _, _, rfl, rfl, ?_⟩
    dsimp only [gName]
    refine ⟨_, rfl, tb, rfl, ⟨_, htb.sq⟩, cmp_tup (K := K) (a := tb) (xs := vs) (fun i ys σ H' => (∃ o, σ = [o, some (.int s.l), some (.int s.t), some (.int s.r), some (.int s.b)]) ∧ Same H H' ∧ BoxesAt H ys ((cs.take i).filter (wthn s)))
      ⟨⟨none, rfl⟩, Same.refl _, .nil⟩ (fun i ys σ H' hi ⟨_, S, e⟩ => ⟨?_, (TpF.same S htb).sq⟩) ?_ ?_⟩
    · have := e.len
      have := List.length_filter_le (wthn s) (cs.take i)
      rw [List.length_take] at this
      exact Nat.le_trans (show _ ≤ 1000 by omega) (by decide)
    case refine_3 =>
      rintro i x ys σ H' hx ⟨⟨o, rfl⟩, S, e⟩
      have hi : i < cs.length := by rw [← lv]; exact (List.getElem?_eq_some_iff.mp hx).1
      have eb : cs[i]? = some cs[i] := List.getElem?_eq_getElem hi
      generalize cs[i] = b at eb
      obtain ⟨v, hv, pb, rfl, hb⟩ := hB.get eb
      rw [hx] at hv
      cases hv
      have t := box_four (S _ _ hb) K
      dsimp only [gName]
      refine (tst_and (tst_of (evl_I0 (evl_var rfl) (evl_ixT (evl_var rfl) evl_c t rfl))) (tst_and (tst_of (evl_I0 (evl_var rfl) (evl_ixT (evl_var rfl) evl_c t rfl))) (tst_and (tst_of (evl_I0 (evl_ixT (evl_var rfl) evl_c t rfl) (evl_var rfl))) (tst_of (evl_I0 (evl_ixT (evl_var rfl) evl_c t rfl) (evl_var rfl)))))) _ ?_
      refine ite2 (fun c1 => ?_) (fun c1 => ?_)
      · have c1 : wthn s b = true := (lst_within s b).mp (of_decide_eq_true c1)
        exact ⟨_, rfl, ⟨_, rfl⟩, S, by rw [take_flt _ eb, if_pos c1]; exact Paired.snoc e ⟨pb, rfl, hb⟩⟩
      · have c1 : ¬ wthn s b = true := fun z => c1 (decide_eq_true ((lst_within s b).mpr z))
        exact ⟨⟨_, rfl⟩, S, by rw [take_flt _ eb, if_neg c1, List.append_nil]; exact e⟩
    rintro us σ H2 ⟨_, S2, hU⟩ lb nlb
    rw [lv, List.take_length] at hU
    have S3 := S2.trans (same_new (o := .lst us) nlb)
    have hlb : upd H2 lb (.lst us) lb = some (.lst us) := upd_same
    generalize upd H2 lb (.lst us) = H3 at S3 hlb
    have two := (two_iff T hS.1).mpr hS.2.1
    have PA := (piece_area T hS.1.wide hS.1.high).mpr hS.1
    have few : (cs.filter (wthn s)).length ≤ 24 := Nat.le_trans (List.length_filter_le _ _) h24
    have inP := (piece_iff T).mp hS.1
    have sm : ∀ b ∈ cs.filter (wthn s), small1 (b.r - b.l) := fun b hb => by
      have o := T.wf b (List.mem_filter.mp hb).1
      have := o.h0
      have := o.h1
      have := o.h2
      unfold small1
      omega
    have mem : ∀ b, b ∈ cs.filter (wthn s) ↔ b ∈ cs ∧ wthn s b = true := fun b => List.mem_filter
    have noX : ¬ ∃ b ∈ cs.filter (wthn s), HC id (cs.filter (wthn s)) b := fun z => hS.2.2 (.inl ((hc_cut hS.1 mem fun b hb => (T.wf b hb).h1).mp z))
    have noY : ¬ ∃ b ∈ cs.filter (wthn s), HC flp (cs.filter (wthn s)) b := fun z => hS.2.2 (.inr ((hc_cutF hS.1 mem fun b hb => (T.wf b hb).v1).mp z))
    generalize cs.filter (wthn s) = bs at hU two PA few sm noX noY
    have lu := hU.len
    refine run_gname ?_
    dsimp only
    refine ⟨_, rfl, lb, rfl, ⟨_, SqL.of hlb⟩, cmp_list (K := K) (a := lb) (xs := us) (fun i ys σ H' => (∃ o, σ = [o]) ∧ ys = (bs.take i).map (fun b => V.int (area b)) ∧ Same H3 H')
      ⟨⟨none, rfl⟩, rfl, Same.refl _⟩ (fun i ys σ H' hi ⟨_, e, S⟩ => ⟨by rw [e, List.length_map, List.length_take]; exact Nat.le_trans (show _ ≤ 1000 by omega) (by decide), SqL.of (S _ _ hlb)⟩) ?_ ?_⟩
    case refine_2 =>
      rintro i x ys σ H' hx ⟨⟨o, rfl⟩, e, S⟩
      subst e
      obtain ⟨pb, b, rfl, eb, hb⟩ := boxes_at hU (S3.trans S) hx
      have t := box_four hb K
      dsimp only [gName, tYes]
      refine iteT ?_
      refine (evl_I (i := b.r - b.l) (j := b.b - b.t) (evl_I0 (evl_ixT (evl_var rfl) evl_c t rfl) (evl_ixT (evl_var rfl) evl_c t rfl)) (evl_I0 (evl_ixT (evl_var rfl) evl_c t rfl) (evl_ixT (evl_var rfl) evl_c t rfl)) (.inl (sm b (List.mem_of_getElem? eb)))) _ ⟨⟨_, rfl⟩, ?_, S⟩
      rw [List.take_add_one, eb, List.map_append]
      rfl
    rintro ys σ H4 ⟨_, e, S4⟩ la nla
    rw [lu, List.take_length] at e
    have hla : upd H4 la (.lst ys) la = some (.lst ((bs.map area).map V.int)) := by rw [upd_same, e, List.map_map]; rfl
    have S5 := S4.trans (same_new (o := .lst ys) nla)
    generalize upd H4 la (.lst ys) = H5 at hla S5
    refine ⟨la, bs.map area, rfl, SqL.of hla, ?_⟩
    rw [PA]
    have hlb5 := S5 _ _ hlb
    have A5 := S3.trans S5
    refine run_gname ?_
    dsimp only
    refine ⟨_, rfl, _, _, rfl, .inl (SqL.of hlb5), _, _, rfl, rfl, _, rfl, ?_⟩
    rw [decide_eq_false (show ¬ ((us.length : Nat) : Int) < 2 by omega)]
    refine iteF ?_
    refine ⟨_, rfl, _, rfl, _, rfl, _, _, rfl, rfl, _, rfl, _, rfl, _, _, rfl, rfl, _, _, rfl, rfl, .inl ⟨by omega, by omega⟩, rfl, _, rfl, ?_⟩
    rw [decide_eq_true (show V.int (area s) = V.int ((s.r - s.l) * (s.b - s.t)) from rfl)]
    refine iteF ?_
    refine run_next ?_
    dsimp only
    refine ⟨_, rfl, lb, true, us, bs, rfl, hlb5, hU.same A5, by omega, few, fun c H6 S6 hc => ?_⟩
    have ec : c = false := by
      cases c with
      | false => rfl
      | true => exact absurd (hc.mp rfl) noX
    subst ec
    refine ⟨_, rfl, _, rfl, iteT ?_⟩
    refine ⟨_, rfl, lb, false, us, bs, rfl, S6 _ _ hlb5, hU.same (A5.trans S6), by omega, few, fun c H7 S7 hc => ?_⟩
    have ec : c = false := by
      cases c with
      | false => rfl
      | true => exact absurd (hc.mp rfl) noY
    subst ec
    exact ⟨_, rfl, q H7 (A5.trans (S6.trans S7))⟩
theorem scLaw : FnScope ["script", "page", "boxes", "tree", "piece"] ["script"] (defScope sLaw) := ⟨rfl, rfl, rfl, by decide +kernel, rfl, by decide +kernel, by decide +kernel⟩
theorem ok_law {f fP fT fS fL fI fJ : Addr} {fd dP dT dS dL dI dJ : FuncData} (F : Fun K "law" "law" sLaw f fd) (Z : Nt K mg) (ts : mg "sorted" = none) (Pa : Callee P w K mg base CX0 5 "_law_page_of" fP dP ["script"] (spPageOf K)) (To : Callee P w K mg base CX0 32 "tree_of" fT dT ["page"] spTof) (Sk : Callee P w K mg base CX0 31 "stuck_piece" fS dS ["page"] spStk)
    (Ls : Callee P w K mg base CX0 2 "_law_is_stuck" fL dL ["boxes", "piece"] spLst) (Is : Callee P w K mg base CX0 6 "is_stuck" fI dI ["page", "piece"] spIsS) (Tg : Callee P w K mg base CX0 26 "_law_together" fJ dJ ["boxes", "tree", "above"] (spTog 24)) : FnOk P w K mg base CX0 33 f fd ["script"] (spLaw K) := by
  obtain ⟨ti, tint, tbool, ttup, tlist, tl, tr, kI, kB, kT⟩ := Z
  refine F.ok scLaw (fun vs H Q E h => ?_) (fun cdv A outer s H vs Q E hr h => ?_)
  · obtain ⟨a, ns, rfl, _⟩ := h
    rfl
  · obtain ⟨a, ns, rfl, hS, h63, q⟩ := h
    refine ⟨_, (pss_cons (ps_set (i := 1) scLaw.nd rfl (Or.inl rfl) (pe_call Pa.ok (hr.mono (show 5 ≤ 32 by decide)) rfl Pa.bound Pa.kp Pa.bd .nil pass0 (pa_cons (pv 0) pa_nil)))
      (pss_cons (ps_set (i := 2) scLaw.nd rfl (Or.inl rfl) (pe_ix ix_tup (pv 1) pe_int (fun _ _ => rfl)))
      (pss_cons (ps_set (i := 3) scLaw.nd rfl (Or.inl rfl) (pe_call To.ok (hr.mono (show 32 ≤ 32 by decide)) rfl To.bound To.kp To.bd .nil pass0 (pa_cons (pv 1) pa_nil)))
      (pss_cons (ps_set (i := 4) scLaw.nd rfl (Or.inl rfl) (pe_call Sk.ok (hr.mono (show 31 ≤ 32 by decide)) rfl Sk.bound Sk.kp Sk.bd .nil pass0 (pa_cons (pv 1) pa_nil)))
      (pss_cons (ps_if (pt_cmpR (op_two op_eq (op_eqTS hr.units)) (pv 3) pe_str (nomark _))
      (pss_one (ps_ret (pe_and (pe_call Ls.ok (hr.mono (show 2 ≤ 32 by decide)) rfl Ls.bound Ls.kp Ls.bd .nil pass0 (pa_cons (pv 2) (pa_cons (pv 4) pa_nil))) (pe_one (pe_cmpR op_isB (pe_call Is.ok (hr.mono (show 6 ≤ 32 by decide)) rfl Is.bound Is.kp Is.bd .nil pass0 (pa_cons (pv 1) (pa_cons (pv 4) pa_nil))) pe_bl rfl)))))
      pss_nil)
      (pss_cons (ps_if (pt_cmpR op_notN (pv 4) pe_non rfl)
      (pss_one (ps_ret pe_bl))
      pss_nil)
      (pss_one (ps_ret (pe_cmpR (op_eqR hr.units) (pe_callB call_sortN (by rfl) ts PyProof.Rows.boot_sorted (pa_cons (pe_call Tg.ok (hr.mono (show 26 ≤ 32 by decide)) rfl Tg.bound Tg.kp Tg.bd .nil pass0 (pa_cons (pv 2) (pa_cons (pv 3) (pa_cons pe_str pa_nil)))) pa_nil)) (pe_listRange rfl rfl tlist rfl tr (pa_cons (pe_callB call_len_seq (by rfl) tl PySem.boot_len (pa_cons (pv 2) pa_nil)) pa_nil)) (nomark _)))))))))), ?_⟩
    refine ⟨_, rfl, a, ns, rfl, hS, fun pg W G cs H1 S1 hPG T W0 G0 W1 => ?_⟩
    refine run_gname ?_
    dsimp only
    obtain ⟨tb, us, hpg, htb, hB, h24⟩ := id hPG
    have PW := whole_piece T W0 G0
    refine ⟨_, rfl, _, _, _, _, rfl, rfl, SqT.of hpg, rfl, ?_⟩
    refine run_gname ?_
    dsimp only
    refine ⟨_, rfl, pg, W, G, cs, rfl, hPG, T, W0, G0, fun s0 H2 S2 hF => ?_, fun vt t H2 S2 hF hA hTr => ?_⟩
    · refine run_gname ?_
      dsimp only
      refine ⟨_, rfl, pg, W, G, cs, rfl, hPG.same S2, T, W0, G0, fun H3 S3 hN => (by cases hF.uniq hN), fun v s1 H3 S3 hv hF1 => ?_⟩
      cases hF.uniq hF1
      refine run_gname ?_
      dsimp only
      refine ⟨_, rfl, .inl ⟨rfl, _, rfl, ?_⟩⟩
      rw [decide_eq_true rfl]
      refine iteT ?_
      have hI := hF.stuck T PW _ rfl
      have inP := (piece_iff T).mp hI.1
      have A3 := S2.trans S3
      refine ⟨_, rfl, _, rfl, tb, v, us, W, G, cs, s0, rfl, TpF.same A3 htb, hB.same A3, h24, hv, T, by omega, hI, fun H5 S5 => ⟨_, rfl, iteT ?_⟩⟩
      refine ⟨_, rfl, _, rfl, pg, v, W, G, cs, s0, rfl, hPG.same (A3.trans S5), hv.same S5, T, by omega, .inl ⟨by omega, by omega⟩, fun c H6 S6 hc => ?_⟩
      have e : c = true := hc.mpr hI
      subst e
      refine ⟨true, rfl, rfl, ?_⟩
      rw [decide_eq_true rfl]
      exact q H6
    · refine run_gname ?_
      dsimp only
      refine ⟨_, rfl, pg, W, G, cs, rfl, hPG.same S2, T, W0, G0, fun H3 S3 hN => ?_, fun v s1 H3 S3 hv hF1 => by cases hF.uniq hF1⟩
      refine run_gname ?_
      dsimp only
      have hA3 := hA.same S3
      have A3 := S2.trans S3
      have noS : ∀ (σ : St) (k : V → Hp → Prop), k (.bl false) H3 → (rEq vt (.str "stuck") H3 k ∨ rEqTS K vt (.str "stuck") H3 k) := fun σ k hk => by
        cases hTr with
        | leaf h =>
          cases hA3
          refine .inl ⟨rfl, ?_⟩
          rw [decide_eq_false (by intro z; cases z)]
          exact hk
        | node h hp l r =>
          cases hA3 with
          | tup e hL => exact .inr ⟨_, _, _, rfl, rfl, SqT.of e, hk⟩
      refine ⟨_, rfl, noS [] _ ⟨_, rfl, iteF ?_⟩⟩
      refine run_next ?_
      dsimp only
      refine ⟨_, rfl, rfl, _, rfl, ?_⟩
      rw [decide_eq_true rfl]
      refine iteF ?_
      refine run_next ?_
      dsimp only
      have nok : ¬ CutK cs ⟨0, 0, W, G⟩ "" := fun z => by
        rcases z with ⟨z, _⟩ | ⟨z, _⟩
        · exact absurd z (by decide +kernel)
        · exact absurd z (by decide +kernel)
      refine ⟨_, rfl, _, rfl, tb, vt, "", us, cs, W, G, _, t, rfl, TpF.same A3 htb, hB.same A3, h24, T, hA3, hTr, PW, Nat.le_trans (List.length_filter_le _ _) h24, Nat.le_refl _, nok, fun l ms H4 S4 nl hl pm => ?_⟩
      have all : ixs cs ⟨0, 0, W, G⟩ = List.range cs.length := by
        unfold ixs
        refine List.filter_eq_self.mpr fun i hi => ?_
        have o := T.wf _ (bx_mem (List.mem_range.mp hi)).1
        exact wthn_iff.mpr ⟨o.h0, o.h2, o.v0, o.v2⟩
      rw [all] at pm
      have lm := pm.length_eq
      rw [List.length_range] at lm
      have hl' : SqL K H4 l ((ms.map fun i : Nat => (i : Int)).map V.int) := by
        refine SqL.of ?_
        rw [hl]
        unfold nL
        rw [List.map_map]
        rfl
      refine ⟨l, _, rfl, hl', by rw [List.length_map]; omega, fun ls ks nls pk uk => ?_⟩
      have S5 := same_new (o := .lst (ks.map V.int)) nls
      have hls : upd H4 ls (.lst (ks.map V.int)) ls = some (.lst (ks.map V.int)) := upd_same
      generalize upd H4 ls (.lst (ks.map V.int)) = H5 at S5 hls
      have A5 := A3.trans (S4.trans S5)
      have lu := hB.len
      refine ⟨_, rfl, tb, us, rfl, .inr (TpF.same A5 htb).sq, us.length, rfl, by omega, fun l3 nl3 => ?_⟩
      have S6 := same_new (o := .lst ((List.range us.length).map fun i : Nat => V.int i)) nl3
      have h3 : (upd H5 l3 (.lst ((List.range us.length).map fun i : Nat => V.int i))) l3 = some (.lst ((up us.length).map V.int)) := by
        rw [upd_same]
        unfold up
        rw [List.map_map]
        rfl
      refine ⟨ls, l3, 1, _, rfl, rfl, eq_ints (SqL.of (S6 _ _ hls)) (SqL.of h3), by decide, ?_⟩
      have pk2 : ks.Perm (up us.length) := pk.trans (by rw [lu]; exact pm.map _)
      have ek : ks = up us.length := srt_same pk2 uk (up_up _)
      rw [decide_eq_true ek]
      exact q _
end
end JC
set_option Elab.async false
set_option linter.all false
set_option maxRecDepth 100000
set_option maxHeartbeats 4000000
namespace JC
open PySem L2 Til Tre
theorem all_mk {l : PySem.W.OpenLaw} {w : World} {K : PySem.W.Frag} {h : Heap} {mg : Str → Option Value} {fa  f0 f1 f2 f3 f4 f5 f6 f7 f8 f9 f10 f11 f12 f13 f14 f15 f16 f17 f18 f19 f20 f21 f22 f23 f24 f25 f26 f27 f28 f29 f30 f31 f32 f33 f34 f35 f36 C0 C1 : Addr} (X : K.In h) (G : h.Ns mainGlobals mg) (hfa : mg "law" = some (.ref fa)) 
    {od0 od1 od2 od3 od4 od5 od6 od7 od8 od9 od10 od11 od12 od13 od14 od15 od16 od17 od18 od19 od20 od21 od22 od23 od24 od25 od26 od27 od28 od29 od30 od31 od32 od33 od34 od35 od36 an0 an1 an2 an3 an4 an5 an6 an7 an8 an9 an10 an11 an12 an13 an14 an15 an16 an17 an18 an19 an20 an21 an22 an23 an24 an25 an26 an27 an28 an29 an30 an31 an32 an33 an34 an35 an36 : Option Addr} {sl0 sl1 sl2 sl3 sl4 sl5 sl6 sl7 sl8 sl9 sl10 sl11 sl12 sl13 sl14 sl15 sl16 sl17 sl18 sl19 sl20 sl21 sl22 sl23 sl24 sl25 sl26 sl27 sl28 sl29 sl30 sl31 sl32 sl33 sl34 sl35 sl36 : Array (Option Value)} {oc0 kV0 dc0 pm0 cd0 ct0 oc1 kV1 dc1 pm1 cd1 ct1 oc2 kV2 dc2 pm2 cd2 ct2 oc3 kV3 dc3 pm3 cd3 ct3 oc4 kV4 dc4 pm4 cd4 ct4 oc5 kV5 dc5 pm5 cd5 ct5 oc6 kV6 dc6 pm6 cd6 ct6 oc7 kV7 dc7 pm7 cd7 ct7 oc8 kV8 dc8 pm8 cd8 ct8 oc9 kV9 dc9 pm9 cd9 ct9 oc10 kV10 dc10 pm10 cd10 ct10 oc11 kV11 dc11 pm11 cd11 ct11 oc12 kV12 dc12 pm12 cd12 ct12 oc13 kV13 dc13 pm13 cd13 ct13 oc14 kV14 dc14 pm14 cd14 ct14 oc15 kV15 dc15 pm15 cd15 ct15 oc16 kV16 dc16 pm16 cd16 ct16 oc17 kV17 dc17 pm17 cd17 ct17 oc18 kV18 dc18 pm18 cd18 ct18 oc19 kV19 dc19 pm19 cd19 ct19 oc20 kV20 dc20 pm20 cd20 ct20 oc21 kV21 dc21 pm21 cd21 ct21 oc22 kV22 dc22 pm22 cd22 ct22 oc23 kV23 dc23 pm23 cd23 ct23 oc24 kV24 dc24 pm24 cd24 ct24 oc25 kV25 dc25 pm25 cd25 ct25 oc26 kV26 dc26 pm26 cd26 ct26 oc27 kV27 dc27 pm27 cd27 ct27 oc28 kV28 dc28 pm28 cd28 ct28 oc29 kV29 dc29 pm29 cd29 ct29 oc30 kV30 dc30 pm30 cd30 ct30 oc31 kV31 dc31 pm31 cd31 ct31 oc32 kV32 dc32 pm32 cd32 ct32 oc33 kV33 dc33 pm33 cd33 ct33 oc34 kV34 dc34 pm34 cd34 ct34 oc35 kV35 dc35 pm35 cd35 ct35 oc36 kV36 dc36 pm36 cd36 ct36 : Value} {tk1 tk2 tk3 : Tok} {t_WIDE t_HIGH t_KIND t_LEFT t_TOP t_RIGHT t_BELOW t_BOXES t_PARTS t_MOST_BOXES : Tok}
    (a0 : PySem.W.nsIn K mainGlobals "is_whole" = some (some (.ref f0)))
    (l0 : K.lookup f0 = some ⟨oc0, od0, .func (PySem.W.fnOf "is_whole" "is_whole" (defArgs sWhole) (defBody sWhole) (defScope sWhole) .none kV0 dc0 pm0 an0 cd0 ct0), sl0⟩)
    (c0 : PySem.W.codeIn K cd0 "is_whole" = true)
    (k0 : PySem.W.keepIn K (.ref f0) = true)
    (a1 : PySem.W.nsIn K mainGlobals "is_box" = some (some (.ref f1)))
    (l1 : K.lookup f1 = some ⟨oc1, od1, .func (PySem.W.fnOf "is_box" "is_box" (defArgs sBox) (defBody sBox) (defScope sBox) .none kV1 dc1 pm1 an1 cd1 ct1), sl1⟩)
    (c1 : PySem.W.codeIn K cd1 "is_box" = true)
    (k1 : PySem.W.keepIn K (.ref f1) = true)
    (a2 : PySem.W.nsIn K mainGlobals "area" = some (some (.ref f2)))
    (l2 : K.lookup f2 = some ⟨oc2, od2, .func (PySem.W.fnOf "area" "area" (defArgs sArea) (defBody sArea) (defScope sArea) .none kV2 dc2 pm2 an2 cd2 ct2), sl2⟩)
    (c2 : PySem.W.codeIn K cd2 "area" = true)
    (k2 : PySem.W.keepIn K (.ref f2) = true)
    (a3 : PySem.W.nsIn K mainGlobals "is_length" = some (some (.ref f3)))
    (l3 : K.lookup f3 = some ⟨oc3, od3, .func (PySem.W.fnOf "is_length" "is_length" (defArgs sLength) (defBody sLength) (defScope sLength) .none kV3 dc3 pm3 an3 cd3 ct3), sl3⟩)
    (c3 : PySem.W.codeIn K cd3 "is_length" = true)
    (k3 : PySem.W.keepIn K (.ref f3) = true)
    (a4 : PySem.W.nsIn K mainGlobals "are_boxes" = some (some (.ref f4)))
    (l4 : K.lookup f4 = some ⟨oc4, od4, .func (PySem.W.fnOf "are_boxes" "are_boxes" (defArgs sAreB) (defBody sAreB) (defScope sAreB) .none kV4 dc4 pm4 an4 cd4 ct4), sl4⟩)
    (c4 : PySem.W.codeIn K cd4 "are_boxes" = true)
    (k4 : PySem.W.keepIn K (.ref f4) = true)
    (a5 : PySem.W.nsIn K mainGlobals "is_within" = some (some (.ref f5)))
    (l5 : K.lookup f5 = some ⟨oc5, od5, .func (PySem.W.fnOf "is_within" "is_within" (defArgs sWithin) (defBody sWithin) (defScope sWithin) .none kV5 dc5 pm5 an5 cd5 ct5), sl5⟩)
    (c5 : PySem.W.codeIn K cd5 "is_within" = true)
    (k5 : PySem.W.keepIn K (.ref f5) = true)
    (a6 : PySem.W.nsIn K mainGlobals "overlap" = some (some (.ref f6)))
    (l6 : K.lookup f6 = some ⟨oc6, od6, .func (PySem.W.fnOf "overlap" "overlap" (defArgs sOverlap) (defBody sOverlap) (defScope sOverlap) .none kV6 dc6 pm6 an6 cd6 ct6), sl6⟩)
    (c6 : PySem.W.codeIn K cd6 "overlap" = true)
    (k6 : PySem.W.keepIn K (.ref f6) = true)
    (a7 : PySem.W.nsIn K mainGlobals "any_overlap" = some (some (.ref f7)))
    (l7 : K.lookup f7 = some ⟨oc7, od7, .func (PySem.W.fnOf "any_overlap" "any_overlap" (defArgs sAny) (defBody sAny) (defScope sAny) .none kV7 dc7 pm7 an7 cd7 ct7), sl7⟩)
    (c7 : PySem.W.codeIn K cd7 "any_overlap" = true)
    (k7 : PySem.W.keepIn K (.ref f7) = true)
    (a8 : PySem.W.nsIn K mainGlobals "fill" = some (some (.ref f8)))
    (l8 : K.lookup f8 = some ⟨oc8, od8, .func (PySem.W.fnOf "fill" "fill" (defArgs sFill) (defBody sFill) (defScope sFill) .none kV8 dc8 pm8 an8 cd8 ct8), sl8⟩)
    (c8 : PySem.W.codeIn K cd8 "fill" = true)
    (k8 : PySem.W.keepIn K (.ref f8) = true)
    (a9 : PySem.W.nsIn K mainGlobals "top_then_left" = some (some (.ref f9)))
    (l9 : K.lookup f9 = some ⟨oc9, od9, .func (PySem.W.fnOf "top_then_left" "top_then_left" (defArgs sTtl) (defBody sTtl) (defScope sTtl) .none kV9 dc9 pm9 an9 cd9 ct9), sl9⟩)
    (c9 : PySem.W.codeIn K cd9 "top_then_left" = true)
    (k9 : PySem.W.keepIn K (.ref f9) = true)
    (a10 : PySem.W.nsIn K mainGlobals "make_page" = some (some (.ref f10)))
    (l10 : K.lookup f10 = some ⟨oc10, od10, .func (PySem.W.fnOf "make_page" "make_page" (defArgs sMake) (defBody sMake) (defScope sMake) .none kV10 dc10 pm10 an10 cd10 ct10), sl10⟩)
    (c10 : PySem.W.codeIn K cd10 "make_page" = true)
    (k10 : PySem.W.keepIn K (.ref f10) = true)
    (a11 : PySem.W.nsIn K mainGlobals "lies_within" = some (some (.ref f11)))
    (l11 : K.lookup f11 = some ⟨oc11, od11, .func (PySem.W.fnOf "lies_within" "lies_within" (defArgs sLiw) (defBody sLiw) (defScope sLiw) .none kV11 dc11 pm11 an11 cd11 ct11), sl11⟩)
    (c11 : PySem.W.codeIn K cd11 "lies_within" = true)
    (k11 : PySem.W.keepIn K (.ref f11) = true)
    (a12 : PySem.W.nsIn K mainGlobals "boxes_in" = some (some (.ref f12)))
    (l12 : K.lookup f12 = some ⟨oc12, od12, .func (PySem.W.fnOf "boxes_in" "boxes_in" (defArgs sBin) (defBody sBin) (defScope sBin) .none kV12 dc12 pm12 an12 cd12 ct12), sl12⟩)
    (c12 : PySem.W.codeIn K cd12 "boxes_in" = true)
    (k12 : PySem.W.keepIn K (.ref f12) = true)
    (a13 : PySem.W.nsIn K mainGlobals "lies_inside" = some (some (.ref f13)))
    (l13 : K.lookup f13 = some ⟨oc13, od13, .func (PySem.W.fnOf "lies_inside" "lies_inside" (defArgs sLii) (defBody sLii) (defScope sLii) .none kV13 dc13 pm13 an13 cd13 ct13), sl13⟩)
    (c13 : PySem.W.codeIn K cd13 "lies_inside" = true)
    (k13 : PySem.W.keepIn K (.ref f13) = true)
    (a14 : PySem.W.nsIn K mainGlobals "uncut_ends" = some (some (.ref f14)))
    (l14 : K.lookup f14 = some ⟨oc14, od14, .func (PySem.W.fnOf "uncut_ends" "uncut_ends" (defArgs sUnc) (defBody sUnc) (defScope sUnc) .none kV14 dc14 pm14 an14 cd14 ct14), sl14⟩)
    (c14 : PySem.W.codeIn K cd14 "uncut_ends" = true)
    (k14 : PySem.W.keepIn K (.ref f14) = true)
    (a15 : PySem.W.nsIn K mainGlobals "parted_across" = some (some (.ref f15)))
    (l15 : K.lookup f15 = some ⟨oc15, od15, .func (PySem.W.fnOf "parted_across" "parted_across" (defArgs sPac) (defBody sPac) (defScope sPac) .none kV15 dc15 pm15 an15 cd15 ct15), sl15⟩)
    (c15 : PySem.W.codeIn K cd15 "parted_across" = true)
    (k15 : PySem.W.keepIn K (.ref f15) = true)
    (a16 : PySem.W.nsIn K mainGlobals "parted_down" = some (some (.ref f16)))
    (l16 : K.lookup f16 = some ⟨oc16, od16, .func (PySem.W.fnOf "parted_down" "parted_down" (defArgs sPdn) (defBody sPdn) (defScope sPdn) .none kV16 dc16 pm16 an16 cd16 ct16), sl16⟩)
    (c16 : PySem.W.codeIn K cd16 "parted_down" = true)
    (k16 : PySem.W.keepIn K (.ref f16) = true)
    (a17 : PySem.W.nsIn K mainGlobals "parted" = some (some (.ref f17)))
    (l17 : K.lookup f17 = some ⟨oc17, od17, .func (PySem.W.fnOf "parted" "parted" (defArgs sPar) (defBody sPar) (defScope sPar) .none kV17 dc17 pm17 an17 cd17 ct17), sl17⟩)
    (c17 : PySem.W.codeIn K cd17 "parted" = true)
    (k17 : PySem.W.keepIn K (.ref f17) = true)
    (a18 : PySem.W.nsIn K mainGlobals "has_cut" = some (some (.ref f18)))
    (l18 : K.lookup f18 = some ⟨oc18, od18, .func (PySem.W.fnOf "has_cut" "has_cut" (defArgs sHasC) (defBody sHasC) (defScope sHasC) .none kV18 dc18 pm18 an18 cd18 ct18), sl18⟩)
    (c18 : PySem.W.codeIn K cd18 "has_cut" = true)
    (k18 : PySem.W.keepIn K (.ref f18) = true)
    (a19 : PySem.W.nsIn K mainGlobals "first_stuck" = some (some (.ref f19)))
    (l19 : K.lookup f19 = some ⟨oc19, od19, .func (PySem.W.fnOf "first_stuck" "first_stuck" (defArgs sFst) (defBody sFst) (defScope sFst) .none kV19 dc19 pm19 an19 cd19 ct19), sl19⟩)
    (c19 : PySem.W.codeIn K cd19 "first_stuck" = true)
    (k19 : PySem.W.keepIn K (.ref f19) = true)
    (a20 : PySem.W.nsIn K mainGlobals "whole_of" = some (some (.ref f20)))
    (l20 : K.lookup f20 = some ⟨oc20, od20, .func (PySem.W.fnOf "whole_of" "whole_of" (defArgs sWho) (defBody sWho) (defScope sWho) .none kV20 dc20 pm20 an20 cd20 ct20), sl20⟩)
    (c20 : PySem.W.codeIn K cd20 "whole_of" = true)
    (k20 : PySem.W.keepIn K (.ref f20) = true)
    (a21 : PySem.W.nsIn K mainGlobals "stuck_piece" = some (some (.ref f21)))
    (l21 : K.lookup f21 = some ⟨oc21, od21, .func (PySem.W.fnOf "stuck_piece" "stuck_piece" (defArgs sStk) (defBody sStk) (defScope sStk) .none kV21 dc21 pm21 an21 cd21 ct21), sl21⟩)
    (c21 : PySem.W.codeIn K cd21 "stuck_piece" = true)
    (k21 : PySem.W.keepIn K (.ref f21) = true)
    (a22 : PySem.W.nsIn K mainGlobals "tree_of_piece" = some (some (.ref f22)))
    (l22 : K.lookup f22 = some ⟨oc22, od22, .func (PySem.W.fnOf "tree_of_piece" "tree_of_piece" (defArgs sTop) (defBody sTop) (defScope sTop) .none kV22 dc22 pm22 an22 cd22 ct22), sl22⟩)
    (c22 : PySem.W.codeIn K cd22 "tree_of_piece" = true)
    (k22 : PySem.W.keepIn K (.ref f22) = true)
    (a23 : PySem.W.nsIn K mainGlobals "tree_of" = some (some (.ref f23)))
    (l23 : K.lookup f23 = some ⟨oc23, od23, .func (PySem.W.fnOf "tree_of" "tree_of" (defArgs sTof) (defBody sTof) (defScope sTof) .none kV23 dc23 pm23 an23 cd23 ct23), sl23⟩)
    (c23 : PySem.W.codeIn K cd23 "tree_of" = true)
    (k23 : PySem.W.keepIn K (.ref f23) = true)
    (a24 : PySem.W.nsIn K mainGlobals "is_piece" = some (some (.ref f24)))
    (l24 : K.lookup f24 = some ⟨oc24, od24, .func (PySem.W.fnOf "is_piece" "is_piece" (defArgs sIsP) (defBody sIsP) (defScope sIsP) .none kV24 dc24 pm24 an24 cd24 ct24), sl24⟩)
    (c24 : PySem.W.codeIn K cd24 "is_piece" = true)
    (k24 : PySem.W.keepIn K (.ref f24) = true)
    (a25 : PySem.W.nsIn K mainGlobals "is_stuck" = some (some (.ref f25)))
    (l25 : K.lookup f25 = some ⟨oc25, od25, .func (PySem.W.fnOf "is_stuck" "is_stuck" (defArgs sIsS) (defBody sIsS) (defScope sIsS) .none kV25 dc25 pm25 an25 cd25 ct25), sl25⟩)
    (c25 : PySem.W.codeIn K cd25 "is_stuck" = true)
    (k25 : PySem.W.keepIn K (.ref f25) = true)
    (a26 : PySem.W.nsIn K mainGlobals "_law_cell_at" = some (some (.ref f26)))
    (l26 : K.lookup f26 = some ⟨oc26, od26, .func (PySem.W.fnOf "_law_cell_at" "_law_cell_at" (defArgs sCellAt) (defBody sCellAt) (defScope sCellAt) .none kV26 dc26 pm26 an26 cd26 ct26), sl26⟩)
    (c26 : PySem.W.codeIn K cd26 "_law_cell_at" = true)
    (k26 : PySem.W.keepIn K (.ref f26) = true)
    (a27 : PySem.W.nsIn K mainGlobals "_law_mixed" = some (some (.ref f27)))
    (l27 : K.lookup f27 = some ⟨oc27, od27, .func (PySem.W.fnOf "_law_mixed" "_law_mixed" (defArgs sMixed) (defBody sMixed) (defScope sMixed) .none kV27 dc27 pm27 an27 cd27 ct27), sl27⟩)
    (c27 : PySem.W.codeIn K cd27 "_law_mixed" = true)
    (k27 : PySem.W.keepIn K (.ref f27) = true)
    (a28 : PySem.W.nsIn K mainGlobals "_law_wheel" = some (some (.ref f28)))
    (l28 : K.lookup f28 = some ⟨oc28, od28, .func (PySem.W.fnOf "_law_wheel" "_law_wheel" (defArgs sWheel) (defBody sWheel) (defScope sWheel) .none kV28 dc28 pm28 an28 cd28 ct28), sl28⟩)
    (c28 : PySem.W.codeIn K cd28 "_law_wheel" = true)
    (k28 : PySem.W.keepIn K (.ref f28) = true)
    (a29 : PySem.W.nsIn K mainGlobals "_law_halves" = some (some (.ref f29)))
    (l29 : K.lookup f29 = some ⟨oc29, od29, .func (PySem.W.fnOf "_law_halves" "_law_halves" (defArgs sHalves) (defBody sHalves) (defScope sHalves) .none kV29 dc29 pm29 an29 cd29 ct29), sl29⟩)
    (c29 : PySem.W.codeIn K cd29 "_law_halves" = true)
    (k29 : PySem.W.keepIn K (.ref f29) = true)
    (a30 : PySem.W.nsIn K mainGlobals "_law_boxes" = some (some (.ref f30)))
    (l30 : K.lookup f30 = some ⟨oc30, od30, .func (PySem.W.fnOf "_law_boxes" "_law_boxes" (defArgs sLbx) (defBody sLbx) (defScope sLbx) .none kV30 dc30 pm30 an30 cd30 ct30), sl30⟩)
    (c30 : PySem.W.codeIn K cd30 "_law_boxes" = true)
    (k30 : PySem.W.keepIn K (.ref f30) = true)
    (a31 : PySem.W.nsIn K mainGlobals "_law_page_of" = some (some (.ref f31)))
    (l31 : K.lookup f31 = some ⟨oc31, od31, .func (PySem.W.fnOf "_law_page_of" "_law_page_of" (defArgs sPageOf) (defBody sPageOf) (defScope sPageOf) .none kV31 dc31 pm31 an31 cd31 ct31), sl31⟩)
    (c31 : PySem.W.codeIn K cd31 "_law_page_of" = true)
    (k31 : PySem.W.keepIn K (.ref f31) = true)
    (a32 : PySem.W.nsIn K mainGlobals "_law_has_cut" = some (some (.ref f32)))
    (l32 : K.lookup f32 = some ⟨oc32, od32, .func (PySem.W.fnOf "_law_has_cut" "_law_has_cut" (defArgs sLhc) (defBody sLhc) (defScope sLhc) .none kV32 dc32 pm32 an32 cd32 ct32), sl32⟩)
    (c32 : PySem.W.codeIn K cd32 "_law_has_cut" = true)
    (k32 : PySem.W.keepIn K (.ref f32) = true)
    (a33 : PySem.W.nsIn K mainGlobals "_law_whole_of" = some (some (.ref f33)))
    (l33 : K.lookup f33 = some ⟨oc33, od33, .func (PySem.W.fnOf "_law_whole_of" "_law_whole_of" (defArgs sLwo) (defBody sLwo) (defScope sLwo) .none kV33 dc33 pm33 an33 cd33 ct33), sl33⟩)
    (c33 : PySem.W.codeIn K cd33 "_law_whole_of" = true)
    (k33 : PySem.W.keepIn K (.ref f33) = true)
    (a34 : PySem.W.nsIn K mainGlobals "_law_together" = some (some (.ref f34)))
    (l34 : K.lookup f34 = some ⟨oc34, od34, .func (PySem.W.fnOf "_law_together" "_law_together" (defArgs sTog) (defBody sTog) (defScope sTog) .none kV34 dc34 pm34 an34 cd34 ct34), sl34⟩)
    (c34 : PySem.W.codeIn K cd34 "_law_together" = true)
    (k34 : PySem.W.keepIn K (.ref f34) = true)
    (a35 : PySem.W.nsIn K mainGlobals "_law_is_stuck" = some (some (.ref f35)))
    (l35 : K.lookup f35 = some ⟨oc35, od35, .func (PySem.W.fnOf "_law_is_stuck" "_law_is_stuck" (defArgs sLst) (defBody sLst) (defScope sLst) .none kV35 dc35 pm35 an35 cd35 ct35), sl35⟩)
    (c35 : PySem.W.codeIn K cd35 "_law_is_stuck" = true)
    (k35 : PySem.W.keepIn K (.ref f35) = true)
    (a36 : PySem.W.nsIn K mainGlobals "law" = some (some (.ref f36)))
    (l36 : K.lookup f36 = some ⟨oc36, od36, .func (PySem.W.fnOf "law" "law" (defArgs sLaw) (defBody sLaw) (defScope sLaw) .none kV36 dc36 pm36 an36 cd36 ct36), sl36⟩)
    (c36 : PySem.W.codeIn K cd36 "law" = true)
    (k36 : PySem.W.keepIn K (.ref f36) = true)
    (C0m : PySem.W.nsIn K mainGlobals "PartError" = some (some (.ref C0)))
    (C1m : PySem.W.nsIn K mainGlobals "NoPage" = some (some (.ref C1)))
    (z_len : PySem.W.nsIn K mainGlobals "len" = some none)
    (z_range : PySem.W.nsIn K mainGlobals "range" = some none)
    (z_isinstance : PySem.W.nsIn K mainGlobals "isinstance" = some none)
    (z_int : PySem.W.nsIn K mainGlobals "int" = some none)
    (z_bool : PySem.W.nsIn K mainGlobals "bool" = some none)
    (z_tuple : PySem.W.nsIn K mainGlobals "tuple" = some none)
    (z_list : PySem.W.nsIn K mainGlobals "list" = some none)
    (z_any : PySem.W.nsIn K mainGlobals "any" = some none)
    (z_all : PySem.W.nsIn K mainGlobals "all" = some none)
    (z_sorted : PySem.W.nsIn K mainGlobals "sorted" = some none)
    (z_set : PySem.W.nsIn K mainGlobals "set" = some none)
    (z_zip : PySem.W.nsIn K mainGlobals "zip" = some none)
    (z_sum : PySem.W.nsIn K mainGlobals "sum" = some none)
    (z_max : PySem.W.nsIn K mainGlobals "max" = some none)
    (z_min : PySem.W.nsIn K mainGlobals "min" = some none)
    (z_str : PySem.W.nsIn K mainGlobals "str" = some none)
    (z_enumerate : PySem.W.nsIn K mainGlobals "enumerate" = some none)
    (g_WIDE : PySem.W.nsIn K mainGlobals "WIDE" = some (some (.int 0 t_WIDE)))
    (g_HIGH : PySem.W.nsIn K mainGlobals "HIGH" = some (some (.int 1 t_HIGH)))
    (g_KIND : PySem.W.nsIn K mainGlobals "KIND" = some (some (.int 0 t_KIND)))
    (g_LEFT : PySem.W.nsIn K mainGlobals "LEFT" = some (some (.int 0 t_LEFT)))
    (g_TOP : PySem.W.nsIn K mainGlobals "TOP" = some (some (.int 1 t_TOP)))
    (g_RIGHT : PySem.W.nsIn K mainGlobals "RIGHT" = some (some (.int 2 t_RIGHT)))
    (g_BELOW : PySem.W.nsIn K mainGlobals "BELOW" = some (some (.int 3 t_BELOW)))
    (g_BOXES : PySem.W.nsIn K mainGlobals "BOXES" = some (some (.int 2 t_BOXES)))
    (g_PARTS : PySem.W.nsIn K mainGlobals "PARTS" = some (some (.int 1 t_PARTS)))
    (g_MOST_BOXES : PySem.W.nsIn K mainGlobals "MOST_BOXES" = some (some (.int 24 t_MOST_BOXES)))
    (ex1 : PySem.W.excIn K C1 [.type "ValueError", .type "Exception", .type "BaseException", .type "object"] "ValueError.__new__" = true)
    (hACR : PySem.W.nsIn K mainGlobals "ACROSS" = some (some (.str "|" tk1)))
    (hSTK : PySem.W.nsIn K mainGlobals "STUCK" = some (some (.str "stuck" tk3)))
    (hDWN : PySem.W.nsIn K mainGlobals "DOWN" = some (some (.str "-" tk2)))
    (q_int0 : PySem.W.kitOne K (.type "NoneType") (.type "int") = some false)
    (q_int1 : PySem.W.kitOne K (.type "bool") (.type "int") = some true)
    (q_int2 : PySem.W.kitOne K (.type "int") (.type "int") = some true)
    (q_int3 : PySem.W.kitOne K (.type "str") (.type "int") = some false)
    (q_int4 : PySem.W.kitOne K (.type "tuple") (.type "int") = some false)
    (q_int5 : PySem.W.kitOne K (.type "list") (.type "int") = some false)
    (q_int6 : PySem.W.kitOne K (.type "dict") (.type "int") = some false)
    (q_bool0 : PySem.W.kitOne K (.type "NoneType") (.type "bool") = some false)
    (q_bool1 : PySem.W.kitOne K (.type "bool") (.type "bool") = some true)
    (q_bool2 : PySem.W.kitOne K (.type "int") (.type "bool") = some false)
    (q_bool3 : PySem.W.kitOne K (.type "str") (.type "bool") = some false)
    (q_bool4 : PySem.W.kitOne K (.type "tuple") (.type "bool") = some false)
    (q_bool5 : PySem.W.kitOne K (.type "list") (.type "bool") = some false)
    (q_bool6 : PySem.W.kitOne K (.type "dict") (.type "bool") = some false)
    (q_tuple0 : PySem.W.kitOne K (.type "NoneType") (.type "tuple") = some false)
    (q_tuple1 : PySem.W.kitOne K (.type "bool") (.type "tuple") = some false)
    (q_tuple2 : PySem.W.kitOne K (.type "int") (.type "tuple") = some false)
    (q_tuple3 : PySem.W.kitOne K (.type "str") (.type "tuple") = some false)
    (q_tuple4 : PySem.W.kitOne K (.type "tuple") (.type "tuple") = some true)
    (q_tuple5 : PySem.W.kitOne K (.type "list") (.type "tuple") = some false)
    (q_tuple6 : PySem.W.kitOne K (.type "dict") (.type "tuple") = some false) :
    ∃ fd : FuncData, (∀ (s : Shared) (v : Value), BindsTo s fd ⟨[v], []⟩ [("script", v)]) ∧ ∀ base : Heap, K.In base → base.Ns mainGlobals mg → FnOk l.prog w K mg base CX0 33 fa fd ["script"] (spLaw K) := by
  have e := hfa.symm.trans (PySem.W.mg_of X G a36)
  cases e
  have F0 := fun_mk (st := sWhole) l0 c0 k0
  have F1 := fun_mk (st := sBox) l1 c1 k1
  have F2 := fun_mk (st := sArea) l2 c2 k2
  have F3 := fun_mk (st := sLength) l3 c3 k3
  have F4 := fun_mk (st := sAreB) l4 c4 k4
  have F5 := fun_mk (st := sWithin) l5 c5 k5
  have F6 := fun_mk (st := sOverlap) l6 c6 k6
  have F7 := fun_mk (st := sAny) l7 c7 k7
  have F8 := fun_mk (st := sFill) l8 c8 k8
  have F9 := fun_mk (st := sTtl) l9 c9 k9
  have F10 := fun_mk (st := sMake) l10 c10 k10
  have F11 := fun_mk (st := sLiw) l11 c11 k11
  have F12 := fun_mk (st := sBin) l12 c12 k12
  have F13 := fun_mk (st := sLii) l13 c13 k13
  have F14 := fun_mk (st := sUnc) l14 c14 k14
  have F15 := fun_mk (st := sPac) l15 c15 k15
  have F16 := fun_mk (st := sPdn) l16 c16 k16
  have F17 := fun_mk (st := sPar) l17 c17 k17
  have F18 := fun_mk (st := sHasC) l18 c18 k18
  have F19 := fun_mk (st := sFst) l19 c19 k19
  have F20 := fun_mk (st := sWho) l20 c20 k20
  have F21 := fun_mk (st := sStk) l21 c21 k21
  have F22 := fun_mk (st := sTop) l22 c22 k22
  have F23 := fun_mk (st := sTof) l23 c23 k23
  have F24 := fun_mk (st := sIsP) l24 c24 k24
  have F25 := fun_mk (st := sIsS) l25 c25 k25
  have F26 := fun_mk (st := sCellAt) l26 c26 k26
  have F27 := fun_mk (st := sMixed) l27 c27 k27
  have F28 := fun_mk (st := sWheel) l28 c28 k28
  have F29 := fun_mk (st := sHalves) l29 c29 k29
  have F30 := fun_mk (st := sLbx) l30 c30 k30
  have F31 := fun_mk (st := sPageOf) l31 c31 k31
  have F32 := fun_mk (st := sLhc) l32 c32 k32
  have F33 := fun_mk (st := sLwo) l33 c33 k33
  have F34 := fun_mk (st := sTog) l34 c34 k34
  have F35 := fun_mk (st := sLst) l35 c35 k35
  have F36 := fun_mk (st := sLaw) l36 c36 k36
  have gSTK : GS mg "STUCK" "stuck" := ⟨_, PySem.W.mg_of X G hSTK⟩
  have gACR : GS mg "ACROSS" "|" := ⟨_, PySem.W.mg_of X G hACR⟩
  have gDWN : GS mg "DOWN" "-" := ⟨_, PySem.W.mg_of X G hDWN⟩
  have Z : Nt K mg := ⟨(PySem.W.mg_none_of X G z_isinstance), (PySem.W.mg_none_of X G z_int), (PySem.W.mg_none_of X G z_bool), (PySem.W.mg_none_of X G z_tuple), (PySem.W.mg_none_of X G z_list), (PySem.W.mg_none_of X G z_len), (PySem.W.mg_none_of X G z_range), (fun t => by cases t; exact q_int0; exact q_int1; exact q_int2; exact q_int3; exact q_int4; exact q_int5; exact q_int6), (fun t => by cases t; exact q_bool0; exact q_bool1; exact q_bool2; exact q_bool3; exact q_bool4; exact q_bool5; exact q_bool6), (fun t => by cases t; exact q_tuple0; exact q_tuple1; exact q_tuple2; exact q_tuple3; exact q_tuple4; exact q_tuple5; exact q_tuple6)⟩
  have ZP : Np K mg := ⟨⟨_, PySem.W.mg_of X G g_LEFT⟩, ⟨_, PySem.W.mg_of X G g_TOP⟩, ⟨_, PySem.W.mg_of X G g_RIGHT⟩, ⟨_, PySem.W.mg_of X G g_BELOW⟩, ⟨_, PySem.W.mg_of X G g_MOST_BOXES⟩, (PySem.W.mg_none_of X G z_isinstance), (PySem.W.mg_none_of X G z_int), (PySem.W.mg_none_of X G z_bool), (PySem.W.mg_none_of X G z_tuple), (PySem.W.mg_none_of X G z_list), (PySem.W.mg_none_of X G z_len), (PySem.W.mg_none_of X G z_all), (PySem.W.mg_none_of X G z_any), (PySem.W.mg_none_of X G z_sum), (PySem.W.mg_none_of X G z_sorted), (PySem.W.mg_none_of X G z_enumerate), q_bool2⟩
  refine ⟨PySem.W.fnOf "law" "law" (defArgs sLaw) (defBody sLaw) (defScope sLaw) .none kV36 dc36 pm36 an36 cd36 ct36, fun s v => .of_eq rfl, fun base B _ => ?_⟩
  have Y0 : Callee l.prog w K mg base CX0 1 "is_whole" f0 _ ["thing"] spWhole := ⟨ok_whole F0 (PySem.W.mg_none_of X G z_isinstance) (PySem.W.mg_none_of X G z_int) (PySem.W.mg_none_of X G z_bool) q_bool2, PySem.W.mg_of X G a0, k0, F0.binds fun _ _ _ _ _ _ us hl => match us, hl with | [_], _ => rfl⟩
  have Y1 : Callee l.prog w K mg base CX0 2 "is_box" f1 _ ["thing"] spBox := ⟨ok_box F1 ⟨_, PySem.W.mg_of X G g_LEFT⟩ ⟨_, PySem.W.mg_of X G g_TOP⟩ ⟨_, PySem.W.mg_of X G g_RIGHT⟩ ⟨_, PySem.W.mg_of X G g_BELOW⟩ (PySem.W.mg_none_of X G z_isinstance) (PySem.W.mg_none_of X G z_tuple) (PySem.W.mg_none_of X G z_len) (PySem.W.mg_none_of X G z_all) Y0, PySem.W.mg_of X G a1, k1, F1.binds fun _ _ _ _ _ _ us hl => match us, hl with | [_], _ => rfl⟩
  have Y2 : Callee l.prog w K mg base CX0 1 "area" f2 _ ["box"] spArea := ⟨ok_area F2 ⟨_, PySem.W.mg_of X G g_LEFT⟩ ⟨_, PySem.W.mg_of X G g_TOP⟩ ⟨_, PySem.W.mg_of X G g_RIGHT⟩ ⟨_, PySem.W.mg_of X G g_BELOW⟩, PySem.W.mg_of X G a2, k2, F2.binds fun _ _ _ _ _ _ us hl => match us, hl with | [_], _ => rfl⟩
  have Y3 : Callee l.prog w K mg base CX0 2 "is_length" f3 _ ["thing"] spLength := ⟨ok_length F3 Y0, PySem.W.mg_of X G a3, k3, F3.binds fun _ _ _ _ _ _ us hl => match us, hl with | [_], _ => rfl⟩
  have Y4 : Callee l.prog w K mg base CX0 3 "are_boxes" f4 _ ["things"] spAre := ⟨ok_are F4 ZP Y1, PySem.W.mg_of X G a4, k4, F4.binds fun _ _ _ _ _ _ us hl => match us, hl with | [_], _ => rfl⟩
  have Y5 : Callee l.prog w K mg base CX0 1 "is_within" f5 _ ["box", "wide", "high"] spWithin := ⟨ok_within F5 ZP, PySem.W.mg_of X G a5, k5, F5.binds fun _ _ _ _ _ _ us hl => match us, hl with | [_, _, _], _ => rfl⟩
  have Y6 : Callee l.prog w K mg base CX0 1 "overlap" f6 _ ["one", "other"] spOverlap := ⟨ok_overlap F6 ZP, PySem.W.mg_of X G a6, k6, F6.binds fun _ _ _ _ _ _ us hl => match us, hl with | [_, _], _ => rfl⟩
  have Y7 : Callee l.prog w K mg base CX0 2 "any_overlap" f7 _ ["boxes"] spAny := ⟨ok_any F7 ZP Y6, PySem.W.mg_of X G a7, k7, F7.binds fun _ _ _ _ _ _ us hl => match us, hl with | [_], _ => rfl⟩
  have Y8 : Callee l.prog w K mg base CX0 3 "fill" f8 _ ["boxes", "wide", "high"] spFill := ⟨ok_fill F8 ZP Y5 Y7 Y2, PySem.W.mg_of X G a8, k8, F8.binds fun _ _ _ _ _ _ us hl => match us, hl with | [_, _, _], _ => rfl⟩
  have Y9 : Callee l.prog w K mg base CX0 1 "top_then_left" f9 _ ["box"] spTtl := ⟨ok_ttl F9 ZP, PySem.W.mg_of X G a9, k9, F9.binds fun _ _ _ _ _ _ us hl => match us, hl with | [_], _ => rfl⟩
  have Y10 : Callee l.prog w K mg base (CXE l.prog w) 4 "make_page" f10 _ ["wide", "high", "boxes"] (spMake C1) := ⟨ok_make F10 ZP ⟨PySem.W.mg_of X G C1m, ex1⟩ Y3 Y4 Y8 Y9, PySem.W.mg_of X G a10, k10, F10.binds fun _ _ _ _ _ _ us hl => match us, hl with | [_, _, _], _ => rfl⟩
  have Y11 : Callee l.prog w K mg base CX0 1 "lies_within" f11 _ ["box", "piece"] spLiw := ⟨ok_liw F11 ⟨_, PySem.W.mg_of X G g_LEFT⟩ ⟨_, PySem.W.mg_of X G g_TOP⟩ ⟨_, PySem.W.mg_of X G g_RIGHT⟩ ⟨_, PySem.W.mg_of X G g_BELOW⟩, PySem.W.mg_of X G a11, k11, F11.binds fun _ _ _ _ _ _ us hl => match us, hl with | [_, _], _ => rfl⟩
  have Y12 : Callee l.prog w K mg base CX0 2 "boxes_in" f12 _ ["page", "piece"] spBin := ⟨ok_bin F12 ⟨_, PySem.W.mg_of X G g_BOXES⟩ Y11, PySem.W.mg_of X G a12, k12, F12.binds fun _ _ _ _ _ _ us hl => match us, hl with | [_, _], _ => rfl⟩
  have Y13 : Callee l.prog w K mg base CX0 1 "lies_inside" f13 _ ["place", "spans"] spLii := ⟨ok_lii F13 (PySem.W.mg_none_of X G z_any), PySem.W.mg_of X G a13, k13, F13.binds fun _ _ _ _ _ _ us hl => match us, hl with | [_, _], _ => rfl⟩
  have Y14 : Callee l.prog w K mg base CX0 2 "uncut_ends" f14 _ ["spans"] spUnc := ⟨ok_unc F14 (PySem.W.mg_none_of X G z_sorted) (PySem.W.mg_none_of X G z_set) Y13, PySem.W.mg_of X G a14, k14, F14.binds fun _ _ _ _ _ _ us hl => match us, hl with | [_], _ => rfl⟩
  have Y15 : Callee l.prog w K mg base CX0 3 "parted_across" f15 _ ["page", "piece"] (spPrt id) := ⟨ok_pac F15 ⟨_, PySem.W.mg_of X G g_LEFT⟩ ⟨_, PySem.W.mg_of X G g_TOP⟩ ⟨_, PySem.W.mg_of X G g_RIGHT⟩ ⟨_, PySem.W.mg_of X G g_BELOW⟩ (PySem.W.mg_none_of X G z_zip) Y12 Y14, PySem.W.mg_of X G a15, k15, F15.binds fun _ _ _ _ _ _ us hl => match us, hl with | [_, _], _ => rfl⟩
  have Y16 : Callee l.prog w K mg base CX0 3 "parted_down" f16 _ ["page", "piece"] (spPrt flp) := ⟨ok_pdn F16 ⟨_, PySem.W.mg_of X G g_LEFT⟩ ⟨_, PySem.W.mg_of X G g_TOP⟩ ⟨_, PySem.W.mg_of X G g_RIGHT⟩ ⟨_, PySem.W.mg_of X G g_BELOW⟩ (PySem.W.mg_none_of X G z_zip) Y12 Y14, PySem.W.mg_of X G a16, k16, F16.binds fun _ _ _ _ _ _ us hl => match us, hl with | [_, _], _ => rfl⟩
  have Y17 : Callee l.prog w K mg base CX0 4 "parted" f17 _ ["page", "piece"] spPar := ⟨ok_par F17 gACR gDWN (PySem.W.mg_none_of X G z_len) Y15 Y16, PySem.W.mg_of X G a17, k17, F17.binds fun _ _ _ _ _ _ us hl => match us, hl with | [_, _], _ => rfl⟩
  have Y18 : Callee l.prog w K mg base CX0 5 "has_cut" f18 _ ["page", "piece"] spHasC := ⟨ok_hasC F18 ⟨_, PySem.W.mg_of X G g_PARTS⟩ (PySem.W.mg_none_of X G z_len) Y17, PySem.W.mg_of X G a18, k18, F18.binds fun _ _ _ _ _ _ us hl => match us, hl with | [_, _], _ => rfl⟩
  have Y19 : Callee l.prog w K mg base CX0 30 "first_stuck" f19 _ ["page", "piece"] (spFst 24) := ⟨ok_fst F19 ⟨_, PySem.W.mg_of X G g_BOXES⟩ ⟨_, PySem.W.mg_of X G g_PARTS⟩ Y18 Y17 (PySem.W.mg_of X G a19) k19 (F19.binds fun _ _ _ _ _ _ us hl => match us, hl with | [_, _], _ => rfl) 24, PySem.W.mg_of X G a19, k19, F19.binds fun _ _ _ _ _ _ us hl => match us, hl with | [_, _], _ => rfl⟩
  have Y20 : Callee l.prog w K mg base CX0 1 "whole_of" f20 _ ["page"] spWho := ⟨ok_who F20 ⟨_, PySem.W.mg_of X G g_WIDE⟩ ⟨_, PySem.W.mg_of X G g_HIGH⟩, PySem.W.mg_of X G a20, k20, F20.binds fun _ _ _ _ _ _ us hl => match us, hl with | [_], _ => rfl⟩
  have Y21 : Callee l.prog w K mg base CX0 31 "stuck_piece" f21 _ ["page"] spStk := ⟨ok_stk F21 Y19 Y20, PySem.W.mg_of X G a21, k21, F21.binds fun _ _ _ _ _ _ us hl => match us, hl with | [_], _ => rfl⟩
  have Y22 : Callee l.prog w K mg base CX0 29 "tree_of_piece" f22 _ ["page", "piece"] (spTop 24) := ⟨ok_top F22 ⟨_, PySem.W.mg_of X G g_BOXES⟩ ⟨_, PySem.W.mg_of X G g_KIND⟩ ⟨_, PySem.W.mg_of X G g_PARTS⟩ (PySem.W.mg_none_of X G z_tuple) Y17 (PySem.W.mg_of X G a22) k22 (F22.binds fun _ _ _ _ _ _ us hl => match us, hl with | [_, _], _ => rfl) 24, PySem.W.mg_of X G a22, k22, F22.binds fun _ _ _ _ _ _ us hl => match us, hl with | [_, _], _ => rfl⟩
  have Y23 : Callee l.prog w K mg base CX0 32 "tree_of" f23 _ ["page"] spTof := ⟨ok_tof F23 gSTK Y21 Y22 Y20, PySem.W.mg_of X G a23, k23, F23.binds fun _ _ _ _ _ _ us hl => match us, hl with | [_], _ => rfl⟩
  have Y24 : Callee l.prog w K mg base CX0 3 "is_piece" f24 _ ["page", "thing"] spIsP := ⟨ok_isP F24 (PySem.W.mg_none_of X G z_sum) Y1 Y12 Y2, PySem.W.mg_of X G a24, k24, F24.binds fun _ _ _ _ _ _ us hl => match us, hl with | [_, _], _ => rfl⟩
  have Y25 : Callee l.prog w K mg base CX0 6 "is_stuck" f25 _ ["page", "piece"] spIsS := ⟨ok_isS F25 ⟨_, PySem.W.mg_of X G g_BOXES⟩ Y24 Y18, PySem.W.mg_of X G a25, k25, F25.binds fun _ _ _ _ _ _ us hl => match us, hl with | [_, _], _ => rfl⟩
  have Y26 : Callee l.prog w K mg base CX0 1 "_law_cell_at" f26 _ ["script", "k"] (spCellAt K) := ⟨ok_cellAt F26 (PySem.W.mg_none_of X G z_len), PySem.W.mg_of X G a26, k26, F26.binds fun _ _ _ _ _ _ us hl => match us, hl with | [_, _], _ => rfl⟩
  have Y27 : Callee l.prog w K mg base CX0 1 "_law_mixed" f27 _ ["cell", "k"] spMixed := ⟨ok_mixed F27, PySem.W.mg_of X G a27, k27, F27.binds fun _ _ _ _ _ _ us hl => match us, hl with | [_, _], _ => rfl⟩
  have Y28 : Callee l.prog w K mg base CX0 2 "_law_wheel" f28 _ ["box", "cell"] spWheel := ⟨ok_wheel F28 Y27, PySem.W.mg_of X G a28, k28, F28.binds fun _ _ _ _ _ _ us hl => match us, hl with | [_, _], _ => rfl⟩
  have Y29 : Callee l.prog w K mg base CX0 2 "_law_halves" f29 _ ["box", "cell", "upright"] spHalves := ⟨ok_halves F29 Y27, PySem.W.mg_of X G a29, k29, F29.binds fun _ _ _ _ _ _ us hl => match us, hl with | [_, _, _], _ => rfl⟩
  have Y30 : Callee l.prog w K mg base CX0 3 "_law_boxes" f30 _ ["cells", "wide", "high"] (spLbx K) := ⟨ok_lbx F30 (PySem.W.mg_none_of X G z_len) Y27 Y28 Y29, PySem.W.mg_of X G a30, k30, F30.binds fun _ _ _ _ _ _ us hl => match us, hl with | [_, _, _], _ => rfl⟩
  have Y31 : Callee l.prog w K mg base CX0 5 "_law_page_of" f31 _ ["script"] (spPageOf K) := ⟨ok_pageOf F31 Y26 Y27 Y30 Y10, PySem.W.mg_of X G a31, k31, F31.binds fun _ _ _ _ _ _ us hl => match us, hl with | [_], _ => rfl⟩
  have Y32 : Callee l.prog w K mg base CX0 1 "_law_has_cut" f32 _ ["boxes", "upright"] spLhc := ⟨ok_lhc F32 (PySem.W.mg_none_of X G z_int) (PySem.W.mg_none_of X G z_min), PySem.W.mg_of X G a32, k32, F32.binds fun _ _ _ _ _ _ us hl => match us, hl with | [_, _], _ => rfl⟩
  have Y33 : Callee l.prog w K mg base CX0 1 "_law_whole_of" f33 _ ["boxes"] spLwo := ⟨ok_lwo F33 (PySem.W.mg_none_of X G z_min) (PySem.W.mg_none_of X G z_max), PySem.W.mg_of X G a33, k33, F33.binds fun _ _ _ _ _ _ us hl => match us, hl with | [_], _ => rfl⟩
  have Y34 : Callee l.prog w K mg base CX0 26 "_law_together" f34 _ ["boxes", "tree", "above"] (spTog 24) := ⟨ok_tog F34 Z (PySem.W.mg_none_of X G z_zip) Y32 Y33 (PySem.W.mg_of X G a34) k34 (F34.binds fun _ _ _ _ _ _ us hl => match us, hl with | [_, _, _], _ => rfl) 24, PySem.W.mg_of X G a34, k34, F34.binds fun _ _ _ _ _ _ us hl => match us, hl with | [_, _, _], _ => rfl⟩
  have Y35 : Callee l.prog w K mg base CX0 2 "_law_is_stuck" f35 _ ["boxes", "piece"] spLst := ⟨ok_lst F35 Z (PySem.W.mg_none_of X G z_sum) Y32, PySem.W.mg_of X G a35, k35, F35.binds fun _ _ _ _ _ _ us hl => match us, hl with | [_, _], _ => rfl⟩
  exact ok_law F36 Z (PySem.W.mg_none_of X G z_sorted) Y31 Y23 Y21 Y35 Y25 Y34
end JC
theorem PySem.W.Fast.te11355882053589148578 : True := True.intro
theorem PySem.W.Fast.tw11038899661866481686 : True := True.intro
theorem PySem.W.Fast.tw17593320278699776391 : True := True.intro
theorem PySem.W.Fast.tw17730404237499796391 : True := True.intro
theorem PySem.W.Fast.tw7977612481598109529 : True := True.intro
theorem PySem.W.Fast.tw10161474670910698744 : True := True.intro
theorem PySem.W.Fast.tw6775695112730647794 : True := True.intro
theorem PySem.W.Fast.tw11494741767212290266 : True := True.intro
theorem PySem.W.Fast.tw17568908352405137908 : True := True.intro
theorem PySem.W.Fast.tw14359532369311408843 : True := True.intro
theorem PySem.W.Fast.tw785362115175503147 : True := True.intro
theorem PySem.W.Fast.tw14579007369262484605 : True := True.intro
theorem PySem.W.Fast.tw15488530730201309894 : True := True.intro
theorem PySem.W.Fast.tw16415804576520448480 : True := True.intro
theorem PySem.W.Fast.tw11128439182935360726 : True := True.intro
theorem PySem.W.Fast.tw6908475812804876983 : True := True.intro
theorem PySem.W.Fast.tw15826836679062107878 : True := True.intro
theorem PySem.W.Fast.tw4287248795049740466 : True := True.intro
theorem PySem.W.Fast.tw9286879502489529924 : True := True.intro
theorem PySem.W.Fast.tw2312546696474916248 : True := True.intro
theorem PySem.W.Fast.tw1762336434628905291 : True := True.intro
theorem PySem.W.Fast.tw4161625665744982194 : True := True.intro
theorem PySem.W.Fast.tw13229612590739528177 : True := True.intro
theorem PySem.W.Fast.tw2090310251702915325 : True := True.intro
theorem PySem.W.Fast.tw9985616762053142231 : True := True.intro
theorem PySem.W.Fast.tw14296575063908999223 : True := True.intro
theorem PySem.W.Fast.tw11934941161838456061 : True := True.intro
theorem PySem.W.Fast.tw10815521927153427128 : True := True.intro
theorem PySem.W.Fast.tw14805906568575876458 : True := True.intro
theorem PySem.W.Fast.tw17132823536206874782 : True := True.intro
theorem PySem.W.Fast.tw1607266077066727949 : True := True.intro
theorem PySem.W.Fast.tw11867786467500408778 : True := True.intro
theorem PySem.W.Fast.tw15350713931599406102 : True := True.intro
theorem PySem.W.Fast.tw12566316899634756866 : True := True.intro
theorem PySem.W.Fast.tw4600610848555995867 : True := True.intro
theorem PySem.W.Fast.tw8893105796818204142 : True := True.intro
theorem PySem.W.Fast.tw2764137357529689809 : True := True.intro
theorem PySem.W.Fast.tw14616193063967472779 : True := True.intro
theorem PySem.W.Fast.tw2017408254073349416 : True := True.intro
theorem PySem.W.Fast.tw10465008476977145471 : True := True.intro
theorem PySem.W.Fast.tw15560026157907968498 : True := True.intro
theorem PySem.W.Fast.tw9461421628256016145 : True := True.intro
theorem PySem.W.Fast.tw5730175391718388296 : True := True.intro
theorem PySem.W.Fast.tw17425941639756248356 : True := True.intro
theorem PySem.W.Fast.tw5625693432747002647 : True := True.intro
theorem PySem.W.Fast.tw12006501045579476448 : True := True.intro
theorem PySem.W.Fast.tw1665952818639485506 : True := True.intro
theorem PySem.W.Fast.tw18384537079552995360 : True := True.intro
theorem PySem.W.Fast.tw4410608260010991593 : True := True.intro
theorem PySem.W.Fast.tw14807957404905014081 : True := True.intro
theorem PySem.W.Fast.tw102659183049432892 : True := True.intro
theorem PySem.W.Fast.tw16536086217114299194 : True := True.intro
theorem PySem.W.Fast.tw2546214200482319645 : True := True.intro
theorem PySem.W.Fast.tw2363362354626603145 : True := True.intro
theorem PySem.W.Fast.tw742561622654788974 : True := True.intro
theorem PySem.W.Fast.tw14523042103896975831 : True := True.intro
theorem PySem.W.Fast.tw9585433520288095357 : True := True.intro
theorem PySem.W.Fast.tw12166816347137892390 : True := True.intro
theorem PySem.W.Fast.tw10956121195031672874 : True := True.intro
theorem PySem.W.Fast.tw2349659194082642190 : True := True.intro
theorem PySem.W.Fast.tw15384119080466824309 : True := True.intro
theorem PySem.W.Fast.tw16651283994869031148 : True := True.intro
theorem PySem.W.Fast.tw12989156542512954845 : True := True.intro
theorem PySem.W.Fast.tw18192136422759593577 : True := True.intro
theorem PySem.W.Fast.tw2328062927970908563 : True := True.intro
theorem PySem.W.Fast.tw1992639275119838997 : True := True.intro
open PySem PySem.W PyProof.Rows
set_option maxRecDepth 100000 in
set_option maxHeartbeats 0 in
theorem PySem.Challenge.cw_pagepart_k82_whole_tree_or_stuck_holds : PySem.Challenge.rw_pagepart_k82_whole_tree_or_stuck.Holds := by
  w_on; o_law; k_head; (case hw => w_witness2)
  k_fill
  refine L2.walk_ofK (l := PySem.Challenge.rw_pagepart_k82_whole_tree_or_stuck) (n := 63) (k := 33) (x := "script") (CX := L2.CX0) (sp := fun K => JC.spLaw K) rfl (by decide) rfl ⟨rfl, by decide, by decide⟩ (fun w h Y => PySem.W.kIn_of Y) ?F (fun K H a ns hl hO hS => ⟨a, ns, rfl, hS, hl, fun _ => rfl⟩) fun _ _ _ _ z => z
  case F =>
    intro w mg fa h KX G hmg 
    refine' _root_.JC.all_mk KX G hmg  ?a0 ?l0 ?c0 ?k0 ?a1 ?l1 ?c1 ?k1 ?a2 ?l2 ?c2 ?k2 ?a3 ?l3 ?c3 ?k3 ?a4 ?l4 ?c4 ?k4 ?a5 ?l5 ?c5 ?k5 ?a6 ?l6 ?c6 ?k6 ?a7 ?l7 ?c7 ?k7 ?a8 ?l8 ?c8 ?k8 ?a9 ?l9 ?c9 ?k9 ?a10 ?l10 ?c10 ?k10 ?a11 ?l11 ?c11 ?k11 ?a12 ?l12 ?c12 ?k12 ?a13 ?l13 ?c13 ?k13 ?a14 ?l14 ?c14 ?k14 ?a15 ?l15 ?c15 ?k15 ?a16 ?l16 ?c16 ?k16 ?a17 ?l17 ?c17 ?k17 ?a18 ?l18 ?c18 ?k18 ?a19 ?l19 ?c19 ?k19 ?a20 ?l20 ?c20 ?k20 ?a21 ?l21 ?c21 ?k21 ?a22 ?l22 ?c22 ?k22 ?a23 ?l23 ?c23 ?k23 ?a24 ?l24 ?c24 ?k24 ?a25 ?l25 ?c25 ?k25 ?a26 ?l26 ?c26 ?k26 ?a27 ?l27 ?c27 ?k27 ?a28 ?l28 ?c28 ?k28 ?a29 ?l29 ?c29 ?k29 ?a30 ?l30 ?c30 ?k30 ?a31 ?l31 ?c31 ?k31 ?a32 ?l32 ?c32 ?k32 ?a33 ?l33 ?c33 ?k33 ?a34 ?l34 ?c34 ?k34 ?a35 ?l35 ?c35 ?k35 ?a36 ?l36 ?c36 ?k36 ?C0m ?C1m ?z_len ?z_range ?z_isinstance ?z_int ?z_bool ?z_tuple ?z_list ?z_any ?z_all ?z_sorted ?z_set ?z_zip ?z_sum ?z_max ?z_min ?z_str ?z_enumerate ?g_WIDE ?g_HIGH ?g_KIND ?g_LEFT ?g_TOP ?g_RIGHT ?g_BELOW ?g_BOXES ?g_PARTS ?g_MOST_BOXES ?ex1 ?hACR ?hSTK ?hDWN ?q_int0 ?q_int1 ?q_int2 ?q_int3 ?q_int4 ?q_int5 ?q_int6 ?q_bool0 ?q_bool1 ?q_bool2 ?q_bool3 ?q_bool4 ?q_bool5 ?q_bool6 ?q_tuple0 ?q_tuple1 ?q_tuple2 ?q_tuple3 ?q_tuple4 ?q_tuple5 ?q_tuple6
    (case a0 => k_is)
    (case l0 => k_is)
    (case c0 => k_is)
    (case k0 => k_is)
    (case a1 => k_is)
    (case l1 => k_is)
    (case c1 => k_is)
    (case k1 => k_is)
    (case a2 => k_is)
    (case l2 => k_is)
    (case c2 => k_is)
    (case k2 => k_is)
    (case a3 => k_is)
    (case l3 => k_is)
    (case c3 => k_is)
    (case k3 => k_is)
    (case a4 => k_is)
    (case l4 => k_is)
    (case c4 => k_is)
    (case k4 => k_is)
    (case a5 => k_is)
    (case l5 => k_is)
    (case c5 => k_is)
    (case k5 => k_is)
    (case a6 => k_is)
    (case l6 => k_is)
    (case c6 => k_is)
    (case k6 => k_is)
    (case a7 => k_is)
    (case l7 => k_is)
    (case c7 => k_is)
    (case k7 => k_is)
    (case a8 => k_is)
    (case l8 => k_is)
    (case c8 => k_is)
    (case k8 => k_is)
    (case a9 => k_is)
    (case l9 => k_is)
    (case c9 => k_is)
    (case k9 => k_is)
    (case a10 => k_is)
    (case l10 => k_is)
    (case c10 => k_is)
    (case k10 => k_is)
    (case a11 => k_is)
    (case l11 => k_is)
    (case c11 => k_is)
    (case k11 => k_is)
    (case a12 => k_is)
    (case l12 => k_is)
    (case c12 => k_is)
    (case k12 => k_is)
    (case a13 => k_is)
    (case l13 => k_is)
    (case c13 => k_is)
    (case k13 => k_is)
    (case a14 => k_is)
    (case l14 => k_is)
    (case c14 => k_is)
    (case k14 => k_is)
    (case a15 => k_is)
    (case l15 => k_is)
    (case c15 => k_is)
    (case k15 => k_is)
    (case a16 => k_is)
    (case l16 => k_is)
    (case c16 => k_is)
    (case k16 => k_is)
    (case a17 => k_is)
    (case l17 => k_is)
    (case c17 => k_is)
    (case k17 => k_is)
    (case a18 => k_is)
    (case l18 => k_is)
    (case c18 => k_is)
    (case k18 => k_is)
    (case a19 => k_is)
    (case l19 => k_is)
    (case c19 => k_is)
    (case k19 => k_is)
    (case a20 => k_is)
    (case l20 => k_is)
    (case c20 => k_is)
    (case k20 => k_is)
    (case a21 => k_is)
    (case l21 => k_is)
    (case c21 => k_is)
    (case k21 => k_is)
    (case a22 => k_is)
    (case l22 => k_is)
    (case c22 => k_is)
    (case k22 => k_is)
    (case a23 => k_is)
    (case l23 => k_is)
    (case c23 => k_is)
    (case k23 => k_is)
    (case a24 => k_is)
    (case l24 => k_is)
    (case c24 => k_is)
    (case k24 => k_is)
    (case a25 => k_is)
    (case l25 => k_is)
    (case c25 => k_is)
    (case k25 => k_is)
    (case a26 => k_is)
    (case l26 => k_is)
    (case c26 => k_is)
    (case k26 => k_is)
    (case a27 => k_is)
    (case l27 => k_is)
    (case c27 => k_is)
    (case k27 => k_is)
    (case a28 => k_is)
    (case l28 => k_is)
    (case c28 => k_is)
    (case k28 => k_is)
    (case a29 => k_is)
    (case l29 => k_is)
    (case c29 => k_is)
    (case k29 => k_is)
    (case a30 => k_is)
    (case l30 => k_is)
    (case c30 => k_is)
    (case k30 => k_is)
    (case a31 => k_is)
    (case l31 => k_is)
    (case c31 => k_is)
    (case k31 => k_is)
    (case a32 => k_is)
    (case l32 => k_is)
    (case c32 => k_is)
    (case k32 => k_is)
    (case a33 => k_is)
    (case l33 => k_is)
    (case c33 => k_is)
    (case k33 => k_is)
    (case a34 => k_is)
    (case l34 => k_is)
    (case c34 => k_is)
    (case k34 => k_is)
    (case a35 => k_is)
    (case l35 => k_is)
    (case c35 => k_is)
    (case k35 => k_is)
    (case a36 => k_is)
    (case l36 => k_is)
    (case c36 => k_is)
    (case k36 => k_is)
    (case C0m => k_is)
    (case C1m => k_is)
    (case z_len => k_is)
    (case z_range => k_is)
    (case z_isinstance => k_is)
    (case z_int => k_is)
    (case z_bool => k_is)
    (case z_tuple => k_is)
    (case z_list => k_is)
    (case z_any => k_is)
    (case z_all => k_is)
    (case z_sorted => k_is)
    (case z_set => k_is)
    (case z_zip => k_is)
    (case z_sum => k_is)
    (case z_max => k_is)
    (case z_min => k_is)
    (case z_str => k_is)
    (case z_enumerate => k_is)
    (case g_WIDE => k_is)
    (case g_HIGH => k_is)
    (case g_KIND => k_is)
    (case g_LEFT => k_is)
    (case g_TOP => k_is)
    (case g_RIGHT => k_is)
    (case g_BELOW => k_is)
    (case g_BOXES => k_is)
    (case g_PARTS => k_is)
    (case g_MOST_BOXES => k_is)
    (case ex1 => kernel_rfl)
    (case hACR => k_is)
    (case hSTK => k_is)
    (case hDWN => k_is)
    (case q_int0 => kernel_rfl)
    (case q_int1 => kernel_rfl)
    (case q_int2 => kernel_rfl)
    (case q_int3 => kernel_rfl)
    (case q_int4 => kernel_rfl)
    (case q_int5 => kernel_rfl)
    (case q_int6 => kernel_rfl)
    (case q_bool0 => kernel_rfl)
    (case q_bool1 => kernel_rfl)
    (case q_bool2 => kernel_rfl)
    (case q_bool3 => kernel_rfl)
    (case q_bool4 => kernel_rfl)
    (case q_bool5 => kernel_rfl)
    (case q_bool6 => kernel_rfl)
    (case q_tuple0 => kernel_rfl)
    (case q_tuple1 => kernel_rfl)
    (case q_tuple2 => kernel_rfl)
    (case q_tuple3 => kernel_rfl)
    (case q_tuple4 => kernel_rfl)
    (case q_tuple5 => kernel_rfl)
    (case q_tuple6 => kernel_rfl)
#print axioms PySem.Challenge.cw_pagepart_k82_whole_tree_or_stuck_holds
