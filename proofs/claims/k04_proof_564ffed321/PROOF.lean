import PyProof.Rows.All
import Wide.All
import OpenK.AllK
import Wide.FinOn
import Lean
import PyProof.EqAt
import PyProof.EqKinds
import PyProof.TupleCall
import PyProof.Draws
import PyProof.EnumMake
import PyProof.TupleIter
import PyProof.WalksMore
import PyProof.MinMaxWalk
import PyProof.SeqI3
import KE.KSortTup
import KE.KLam
import KE.KIsAll
import PyProof.Rows.CallKwBuiltin
import PyProof.SumWalk
import PyProof.CompFree
import PyProof.CompUse
import PyProof.ConsumeWalk
import PyProof.NeKinds
import PyProof.StationsW
import PyProof.Rows.Catch
import PyProof.ExcClass2
import PyProof.Rows.StrJoin2
import PyProof.Rows.SortShell
import PyProof.StrBlock2
import PyProof.StrOps
import PyProof.StrLawsLast
import PyProof.StrLawsFirst
import PyProof.StrLawsIn
import PyProof.Rows.StrCountLaw
import PyProof.Conv_int_bool
import PySem.SetOps
import PyProof.Rows.SetFrom
import KE.KRevIter
import PyProof.AutoSeq1
import PyProof.Rows.SortWalk
import PyProof.Rows.SeqMore
import PyProof.Rows.FactsT2
import PyProof.StrWalks
import PyProof.Rows.SortStr
import PyProof.FString5
import PyProof.ZipIter
import PyProof.Rows.StrSplitAre
import PyProof.StrLawsTight
import PyProof.StrBlock
import PyProof.SliceStr2
import PyProof.ListStr
import PySem.Challenge.RW_pagepart_k04_pictures_refused
set_option Elab.async false
set_option linter.all false
set_option maxHeartbeats 4000000
set_option maxRecDepth 100000
namespace _L2
open PySem PySem.Spec PyProof.Rows
abbrev Key := Sum Int Str
noncomputable def Jh:Key -> Value -> Bool
 | .inl k,v => Value.isInt k v
 | .inr x,v => Value.isStrOf x v
noncomputable def keyH (w:World):Key -> Int
 | .inl k => hashInt k
 | .inr x => hashStr w x
theorem yq:∀ {k:Key} {v:Value},Jh k v = true -> (∃ i t,k = Sum.inl i /\ v = Value.int i t) \/ (∃ x t,k = Sum.inr x /\ v = Value.str x t)
 | .inl i,v,h => by
   obtain ⟨t,e⟩ := Value.isInt_shape (k := i) (v := v) h
   exact .inl ⟨i,t,rfl,e⟩
 | .inr x,v,h => by
   obtain ⟨t,e⟩ := Value.isStrOf_shape (x := x) (v := v) h
   exact .inr ⟨x,t,rfl,e⟩
theorem zad (a b:Int):decide ((Sum.inl a:Key) = Sum.inl b) = (a == b) := by
 by_cases e:a = b
 · subst e; simp
 · have h:¬ (Sum.inl a:Key) = Sum.inl b := fun q => e (Sum.inl.inj q)
   rw [decide_eq_false h]
   exact (beq_eq_false_iff_ne.mpr e).symm
theorem zae (a b:Str):decide ((Sum.inr a:Key) = Sum.inr b) = decide (a = b) := by
 by_cases e:a = b
 · subst e; simp
 · have h:¬ (Sum.inr a:Key) = Sum.inr b := fun q => e (Sum.inr.inj q)
   rw [decide_eq_false h,decide_eq_false e]
theorem zaf (a:Int) (b:Str):decide ((Sum.inl a:Key) = Sum.inr b) = false := decide_eq_false (fun q => nomatch q)
theorem zag (a:Str) (b:Int):decide ((Sum.inr a:Key) = Sum.inl b) = false := decide_eq_false (fun q => nomatch q)
noncomputable def Xo (prog:Program) (w:World):PySem.KeyKind prog w Key where
 is := Jh
 hash := keyH w
 inj := fun v a b ha hb => by
   rcases yq ha with ⟨i,t,rfl,rfl⟩ | ⟨x,t,rfl,rfl⟩
   · rcases yq hb with ⟨j,u,rfl,e⟩ | ⟨y,u,rfl,e⟩
     · injection e with e1 _; rw [e1]
     · exact nomatch e
   · rcases yq hb with ⟨j,u,rfl,e⟩ | ⟨y,u,rfl,e⟩
     · exact nomatch e
     · injection e with e1 _; rw [e1]
 byValue := fun k v h => by
   rcases yq h with ⟨i,t,rfl,rfl⟩ | ⟨x,t,rfl,rfl⟩ <;> rfl
 pyHash := fun hv h => by
   rcases yq hv with ⟨i,t,rfl,rfl⟩ | ⟨x,t,rfl,rfl⟩
   · exact wpAny_pyHash_int h
   · exact wpAny_pyHash_str h
 eqBool := fun hu hv h => by
   rcases yq hu with ⟨i,t,rfl,rfl⟩ | ⟨x,t,rfl,rfl⟩
   · rcases yq hv with ⟨j,u,rfl,rfl⟩ | ⟨y,u,rfl,rfl⟩
     · rw [zad] at h; exact wpAny_eqBool_int h
     · rw [zaf] at h; exact SeqAt.EqAt.int_str i t y u _ _ _ _ h
   · rcases yq hv with ⟨j,u,rfl,rfl⟩ | ⟨y,u,rfl,rfl⟩
     · rw [zag] at h; exact SeqAt.EqAt.str_int x t j u _ _ _ _ h
     · rw [zae] at h; exact wpAny_eqBool_str h
 «strs» := fun k x t v h => by
   rcases yq h with ⟨i,u,rfl,e⟩ | ⟨y,u,rfl,e⟩
   · exact nomatch e
   · injection e with e1 _
     subst e1
     cases v <;> rfl
end _L2
namespace _L2
open PySem PySem.Spec PyProof.Rows
inductive V where
 | non | bl (b:Bool) | int (i:Int) | str (x:Str) | byt (b:Array UInt8) | flt (b:UInt64) | ref (a:Addr) | ty (n:String)
 deriving DecidableEq
noncomputable def RelV:V -> Value -> Prop
 | .non,u => u = Value.none
 | .bl b,u => u = Value.bool b
 | .int i,u => ∃ t,u = Value.int i t
 | .str x,u => ∃ t,u = Value.str x t
 | .byt b,u => ∃ t,u = Value.bytes b t
 | .flt b,u => ∃ t,u = Value.float b t
 | .ref a,u => u = Value.ref a
 | .ty n,u => u = Value.type n
abbrev Vals:List V -> List Value -> Prop := Paired RelV
theorem Vals.length {xs:List V} {us:List Value} (r:Vals xs us):xs.length = us.length := Paired.length r
theorem Vals.get:∀ {xs:List V} {us:List Value} {i:Nat} {x:V},Vals xs us -> xs[i]? = some x -> ∃ u,us[i]? = some u /\ RelV x u
 | _,_,_,_,.nil,e => by simp at e
 | _,_,0,_,.cons r _,e => by simp at e; subst e; exact ⟨_,rfl,r⟩
 | _,_,i + 1,x,.cons _ t,e => by
   obtain ⟨u,h1,h2⟩ := Vals.get (i := i) (x := x) t (by simpa using e)
   exact ⟨u,by simpa using h1,h2⟩
theorem Vals.set {x:V} {u:Value} (r:RelV x u):∀ {xs:List V} {us:List Value} (i:Nat),Vals xs us -> Vals (xs.set i x) (us.set i u)
 | _,_,_,.nil => .nil
 | _,_,0,.cons _ t => .cons r t
 | _,_,i + 1,.cons q t => .cons q (Vals.set r i t)
theorem Vals.append:∀ {xs ys:List V} {us ws:List Value},Vals xs us -> Vals ys ws -> Vals (xs ++ ys) (us ++ ws)
 | _,_,_,_,.nil,s => s
 | _,_,_,_,.cons r t,s => .cons r (Vals.append t s)
theorem Vals.take:∀ {xs:List V} {us:List Value} (n:Nat),Vals xs us -> Vals (xs.take n) (us.take n)
 | _,_,0,_ => .nil
 | _,_,_ + 1,.nil => .nil
 | _,_,n + 1,.cons r t => .cons r (Vals.take n t)
theorem Vals.drop:∀ {xs:List V} {us:List Value} (n:Nat),Vals xs us -> Vals (xs.drop n) (us.drop n)
 | _,_,0,r => r
 | _,_,_ + 1,.nil => .nil
 | _,_,n + 1,.cons _ t => Vals.drop n t
noncomputable def RelO:Option V -> Option Value -> Prop
 | some v,some u => RelV v u
 | none,none => True
 | _,_ => False
noncomputable def KV {κ:Type}:List (κ × V) -> List (κ × Value) -> Prop := Paired fun (p:κ × V) (q:κ × Value) => p.1 = q.1 /\ RelV p.2 q.2
noncomputable def kV:Key -> V
 | .inl i => .int i
 | .inr x => .str x
inductive HO where
 /-- a list -/
 | lst (xs:List V)
 /-- a tuple (never changes) -/
 | tup (xs:List V)
 /-- a dict whose keys are ints and texts; one whose keys are tuples of ints and texts (the empty one is both) -/
 | dK (kvs:List (Key × V)) | dT (kvs:List (List Key × V))
 /-- a set of ints: its members,its size -/
 | set (S:Int -> Bool) (n:Nat)
 /-- an instance of the class at C,its dict at dx,its attributes -/
 | ins (C dx:Addr) (fs:List (Str × V))
 /-- the dict of the instance at x -/
 | own (x:Addr)
 /-- the dict of an exception -/
 | xd (fs:List (Str × V))
 /-- a bound method,f of x -/
 | met (f x:Addr)
 /-- a range object lo,lo + 1,.. below hi -/
 | rng (lo hi:Int)
 /-- a thing that is known to the object (the script; a dict while a loop walks it): read,never written while it is so -/
 | frz (o:Obj) (u:HO)
 /-- a code object's table -/
 | tbl (ps:Array Value)
 /-- any other thing,by what is true of its one object (a def of one's own: SetO a S n := HO.ext fun h => ..) -/
 | ext (φ:Heap -> Prop)
abbrev Hp := Addr -> Option HO
noncomputable def upd (H:Hp) (a:Addr) (o:HO):Hp := fun b => if b = a then some o else H b
theorem zd {H:Hp} {a:Addr} {o:HO}:upd H a o a = some o := by unfold upd; rw [if_pos rfl]
theorem zq {H:Hp} {a b:Addr} {o:HO} (h:b ≠ a):upd H a o b = H b := by unfold upd; rw [if_neg h]
theorem y9 {H:Hp} {a b:Addr} {o u:HO} (h:H a = some o) (h':H b = some u) (d:o ≠ u):a ≠ b := by
 intro e; subst e; rw [h] at h'; exact d (Option.some.inj h')
theorem zy {H:Hp} {a b:Addr} {o:HO} (h:H a = some o) (h':H b = none):a ≠ b := by
 intro e; subst e; rw [h] at h'; cases h'
section
variable (P:Program) (w:World)
noncomputable def z7 (H:Hp) (h:Heap) (a:Addr):HO -> Prop
 | .lst xs => xs.length <= sizeLine /\ ∃ (its:List Value) (n:Nat),Vals xs its /\ h.get? a = some { cls := .type "list",data := .seq its.toArray n }
 | .tup xs => xs.length <= sizeLine /\ ∃ its:List Value,Vals xs its /\ IsTup h a its.toArray
 | .dK kvs => kvs.length <= sizeLine /\ (a == sysModules) = false /\ ∃ vs,KV kvs vs /\ h.DictOf (Xo P w) a vs
 | .dT kvs => kvs.length <= sizeLine /\ (a == sysModules) = false /\ ∃ xs:List (List Key × Addr × Value),
     Paired (fun (p:List Key × V) (q:List Key × Addr × Value) => p.1 = q.1 /\ H q.2.1 = some (.tup (p.1.map kV)) /\ RelV p.2 q.2.2) kvs xs /\
     ∃ o es ep,h.get? a = some o /\ o.ExactDict /\ o.data = .dict es ep /\ es.toList = xs.map (entryOfKey (tupleKind (Xo P w))) /\ (xs.map (·.1)).Nodup
 | .set S n => h.SetOf (intKind P w) a S n
 | .ins C dx fs => H dx = some (.own a) /\ fs.length <= 1000 /\ dx ≠ a /\ h.get? a = some (PySem.W.instObj C dx) /\
     ∃ mA,h.Ns1 dx mA /\ (∀ f,RelO (fs.lookup f) (mA f)) /\ PySem.Within mA (fs.map (·.1))
 | .own _ => ∃ o,h.get? a = some o
 | .xd fs => ∃ mA,h.Ns1 a mA /\ ∀ f,RelO (fs.lookup f) (mA f)
 | .rng lo hi => ∃ t u v,h.get? a = some { cls := .type "range",data := .fields #[.int lo t,.int hi u,.int 1 v] }
 | .frz o u => h.get? a = some o /\ z7 H h a u
 | .tbl ps => h.get? a = some { cls := .none,data := .fields ps }
 | .met f x => h.get? a = some (PySem.W.methodObj (.ref f) (.ref x))
 | .ext φ => φ h /\ (∃ o,h.get? a = some o) /\ ∀ h1 h2:Heap,φ h1 -> (∀ o,h1.get? a = some o -> h2.get? a = some o) -> φ h2
noncomputable def HOk (H:Hp) (h:Heap):Prop := ∀ a o,H a = some o -> z7 P w H h a o
end
section
variable {P:Program} {w:World} {H H':Hp} {h h':Heap} {a:Addr} {o:HO}
theorem z7.lt (x:z7 P w H h a o):a < h.objs.size := by
 cases o with
 | lst xs => obtain ⟨_,_,_,_,e⟩ := x; exact Heap.lt_size e
 | tup xs => obtain ⟨_,_,_,p⟩ := x; exact p.lt
 | dK kvs => obtain ⟨_,_,_,_,o,_,_,e,_⟩ := x; exact Heap.lt_size e
 | dT kvs => obtain ⟨_,_,_,_,o,_,_,e,_⟩ := x; exact Heap.lt_size e
 | set S n => obtain ⟨o,_,_,_,e,_⟩ := x; exact Heap.lt_size e
 | ins C dx fs => obtain ⟨_,_,_,e,_⟩ := x; exact Heap.lt_size e
 | own y => obtain ⟨_,e⟩ := x; exact Heap.lt_size e
 | xd fs => obtain ⟨_,⟨_,_,_,e,_⟩,_⟩ := x; exact Heap.lt_size e
 | rng lo hi => obtain ⟨_,_,_,e⟩ := x; exact Heap.lt_size e
 | frz ob u => obtain ⟨e,_⟩ := x; exact Heap.lt_size e
 | tbl ps => exact Heap.lt_size (show h.get? a = some _ from x)
 | met f y => exact Heap.lt_size (show h.get? a = some _ from x)
 | ext φ => obtain ⟨_,⟨_,e⟩,_⟩ := x; exact Heap.lt_size e
theorem Paired.mapP {α β:Type} {F G:α -> β -> Prop}:∀ {l₁:List α} {l₂:List β},Paired F l₁ l₂ -> (∀ a b,F a b -> G a b) -> Paired G l₁ l₂
 | _,_,.nil,_ => .nil
 | _,_,.cons r t,f => .cons (f _ _ r) (Paired.mapP t f)
theorem z7.stay (x:z7 P w H h a o) (k:∀ b u,(b = a \/ H b = some (.own a)) -> h.get? b = some u -> h'.get? b = some u)
   (ho:∀ b,H b = some (.own a) -> H' b = some (.own a)) (ht:∀ b xs,H b = some (.tup xs) -> H' b = some (.tup xs)):z7 P w H' h' a o := by
 induction o with
 | lst xs => obtain ⟨z,its,n,r,e⟩ := x; exact ⟨z,its,n,r,k _ _ (.inl rfl) e⟩
 | tup xs => obtain ⟨z,its,r,ob,e,c⟩ := x; exact ⟨z,its,r,ob,k _ _ (.inl rfl) e,c⟩
 | dK kvs => obtain ⟨z,y,vs,r,ob,es,ep,e,c⟩ := x; exact ⟨z,y,vs,r,ob,es,ep,k _ _ (.inl rfl) e,c⟩
 | dT kvs =>
   obtain ⟨z,y,xs,r,ob,es,ep,e,c⟩ := x
   exact ⟨z,y,xs,Paired.mapP r fun p q z => ⟨z.1,ht _ _ z.2.1,z.2.2⟩,ob,es,ep,k _ _ (.inl rfl) e,c⟩
 | set S n => obtain ⟨ob,es,ep,t,e,c⟩ := x; exact ⟨ob,es,ep,t,k _ _ (.inl rfl) e,c⟩
 | ins C dx fs =>
   obtain ⟨d,z,ne,e,mA,⟨od,es,ep,e2,c⟩,r⟩ := x
   exact ⟨ho _ d,z,ne,k _ _ (.inl rfl) e,mA,⟨od,es,ep,k _ _ (.inr d) e2,c⟩,r⟩
 | own y => obtain ⟨ob,e⟩ := x; exact ⟨ob,k _ _ (.inl rfl) e⟩
 | xd fs => obtain ⟨mA,⟨od,es,ep,e,c⟩,r⟩ := x; exact ⟨mA,⟨od,es,ep,k _ _ (.inl rfl) e,c⟩,r⟩
 | rng lo hi => obtain ⟨t,u,v,e⟩ := x; exact ⟨t,u,v,k _ _ (.inl rfl) e⟩
 | frz ob u ih => obtain ⟨e,q⟩ := x; exact ⟨k _ _ (.inl rfl) e,ih q⟩
 | tbl ps =>
   have e:h.get? a = some { cls := .none,data := .fields ps } := x
   show h'.get? a = some { cls := .none,data := .fields ps }
   exact k a _ (.inl rfl) e
 | met f y =>
   have e:h.get? a = some (PySem.W.methodObj (.ref f) (.ref y)) := x
   show h'.get? a = some (PySem.W.methodObj (.ref f) (.ref y))
   exact k a _ (.inl rfl) e
 | ext φ => obtain ⟨p,⟨o,e⟩,st⟩ := x; exact ⟨st _ _ p fun o q => k _ _ (.inl rfl) q,⟨o,k _ _ (.inl rfl) e⟩,st⟩
theorem HOk.lt (x:HOk P w H h) (e:H a = some o):a < h.objs.size := (x a o e).lt
theorem HOk.fresh (x:HOk P w H h) (e:h.objs.size <= a):H a = none := by
 cases q:H a with
 | none => rfl
 | some u => exact absurd (Nat.lt_of_lt_of_le (x.lt q) e) (Nat.lt_irrefl _)
theorem HOk.kept (x:HOk P w H h) (k:∀ b u,h.get? b = some u -> h'.get? b = some u):HOk P w H h' := fun a o e =>
 (x a o e).stay (fun b u _ q => k b u q) (fun _ q => q) fun _ _ q => q
theorem HOk.laid (x:HOk P w H h) (k:∀ b u,h.get? b = some u -> h'.get? b = some u) (hp:h.objs.size <= a) (new:z7 P w (upd H a o) h' a o):HOk P w (upd H a o) h' := fun b u e => by
 have hn := x.fresh hp
 by_cases hb:b = a
 · subst hb; rw [zd] at e; cases e; exact new
 · rw [zq hb] at e
   exact (x b u e).stay (fun c v _ q => k c v q) (fun c q => by rw [zq (zy q hn)]; exact q) fun c xs q => by rw [zq (zy q hn)]; exact q
end
noncomputable def Rd (H:Hp) (a:Addr) (u:HO):Prop := H a = some u \/ ∃ o,H a = some (.frz o u)
theorem Rd.ok {P:Program} {w:World} {H:Hp} {h:Heap} {a:Addr} {u:HO} (r:Rd H a u) (x:HOk P w H h):z7 P w H h a u := by
 rcases r with r | ⟨o,r⟩
 · exact x a u r
 · obtain ⟨_,q⟩ := x a _ r
   exact q
noncomputable def Mut:Option HO -> Prop
 | some (.lst _) => True
 | some (.dK _) => True
 | some (.dT _) => True
 | some (.set _ _) => True
 | some (.ins _ _ _) => True
 | some (.ext _) => True
 | _ => False
section
variable {P:Program} {w:World} {H:Hp} {h h':Heap} {x e:Addr} {o':HO}
theorem HOk.write (ok:HOk P w H h) (mu:Mut (H x)) (he:e = x \/ H e = some (.own x)) (k:∀ b u,b ≠ e -> h.get? b = some u -> h'.get? b = some u) (heo:∃ u,h'.get? e = some u)
   (new:z7 P w (upd H x o') h' x o'):HOk P w (upd H x o') h' := fun b u q => by
 have nown:∀ c y,H c = some (.own y) -> c ≠ x := fun c y r z => by subst z; rw [r] at mu; exact mu
 have ntup:∀ c xs,H c = some (.tup xs) -> c ≠ x := fun c xs r z => by subst z; rw [r] at mu; exact mu
 by_cases hb:b = x
 · subst hb; rw [zd] at q; cases q; exact new
 · rw [zq hb] at q
   by_cases hbe:b = e
   · have q':H b = some (.own x) := by
       rcases he with z | z
       · exact absurd (hbe.trans z) hb
       · rw [hbe]; exact z
     rw [q] at q'; cases q'
     obtain ⟨v,hv⟩ := heo
     exact ⟨v,by rw [hbe]; exact hv⟩
   · refine (ok b u q).stay (fun c v hc r => k c v ?_ r) (fun c r => by rw [zq (nown c b r)]; exact r) fun c xs r => by rw [zq (ntup c xs r)]; exact r
     rcases hc with rfl | hc
     · exact hbe
     · rintro rfl
       rcases he with z | z
       · exact nown c b hc z
       · rw [hc] at z; cases z; exact hb rfl
end
structure Un (fs ex:List Addr) (H H':Hp) (h h':Heap):Prop where
 keep:∀ b o,h.get? b = some o -> H b = none -> b ∉ fs -> b ∉ ex -> h'.get? b = some o
 slot:∀ b o,h.get? b = some o -> H b = none -> b ∈ fs -> b ∉ ex -> ∃ sl,h'.get? b = some { o with slots := sl }
 free:∀ b o,h.get? b = some o -> H b = none -> b ∉ ex -> H' b = none
 there:∀ b o,h.get? b = some o -> b ∉ ex -> ∃ o',h'.get? b = some o'
 tups:∀ b xs,H b = some (.tup xs) -> H' b = some (.tup xs)
 frzs:∀ b o u,H b = some (.frz o u) -> H' b = some (.frz o u)
 tbls:∀ b ps,H b = some (.tbl ps) -> ∃ more,H' b = some (.tbl (ps ++ more))
section
variable {fs fs' ex ex':List Addr} {H H1 H2:Hp} {h h1 h2 h':Heap} {a x e:Addr} {o:HO}
theorem Un.any (u:Un fs ex H H1 h h1) {b:Addr} {ob:Obj} (q:h.get? b = some ob) (n:H b = none) (hx:b ∉ ex):∃ sl,h1.get? b = some { ob with slots := sl } := by
 by_cases hb:b ∈ fs
 · exact u.slot b ob q n hb hx
 · exact ⟨ob.slots,u.keep b ob q n hb hx⟩
theorem Un.kept (k:∀ b u,h.get? b = some u -> h'.get? b = some u):Un fs ex H H h h' :=
 ⟨fun b ob q _ _ _ => k b ob q,fun b ob q _ _ _ => ⟨ob.slots,k b ob q⟩,fun _ _ _ n _ => n,fun b ob q _ => ⟨ob,k b ob q⟩,fun _ _ q => q,fun _ _ _ q => q,fun _ ps q => ⟨#[],by rw [q]; simp⟩⟩
theorem Un.refl:Un fs ex H H h h := Un.kept fun _ _ q => q
theorem Un.laid (k:∀ b u,h.get? b = some u -> h'.get? b = some u) (hp:h.objs.size <= a) (hn:H a = none):Un fs ex H (upd H a o) h h' where
 keep := fun b u q _ _ _ => k b u q
 slot := fun b u q _ _ _ => ⟨u.slots,k b u q⟩
 free := fun b u q n _ => by rw [zq (Nat.ne_of_lt (Nat.lt_of_lt_of_le (Heap.lt_size q) hp))]; exact n
 there := fun b u q _ => ⟨u,k b u q⟩
 tups := fun b xs q => by rw [zq (zy q hn)]; exact q
 frzs := fun b u xs q => by rw [zq (zy q hn)]; exact q
 tbls := fun b ps q => ⟨#[],by rw [zq (zy q hn),q]; simp⟩
theorem Un.write (mu:Mut (H x)) (he:e = x \/ H e = some (.own x)) (k:∀ b u,b ≠ e -> h.get? b = some u -> h'.get? b = some u) (heo:∃ u,h'.get? e = some u):Un fs ex H (upd H x o) h h' := by
 have hx:∀ b,H b = none -> b ≠ x := fun b n z => by subst z; rw [n] at mu; exact mu
 have hb:∀ b,H b = none -> b ≠ e := fun b n z => by
   subst z
   rcases he with r | r
   · exact hx b n r
   · rw [n] at r; cases r
 have hm:∀ b u,H b = some u -> ¬ Mut (some u) -> b ≠ x := fun b u q nm z => by subst z; rw [q] at mu; exact nm mu
 refine ⟨fun b u q n _ _ => k b u (hb b n) q,fun b u q n _ _ => ⟨u.slots,k b u (hb b n) q⟩,fun b u q n _ => by rw [zq (hx b n)]; exact n,fun b u q _ => ?_,
   fun b xs q => by rw [zq (hm b _ q fun z => z)]; exact q,fun b u xs q => by rw [zq (hm b _ q fun z => z)]; exact q,fun b ps q => ⟨#[],by rw [zq (hm b _ q fun z => z),q]; simp⟩⟩
 by_cases hbe:b = e
 · subst hbe; exact heo
 · exact ⟨u,k b u hbe q⟩
end
noncomputable def trk (h:Heap) (H:Hp):List Addr := (List.range h.objs.size).filter fun a => (H a).isSome
noncomputable def hidT (h:Heap) (H:Hp):Heap := PySem.W.hideAll h (trk h H)
theorem Wp (h:Heap) (H:Hp):(hidT h H).objs.size = h.objs.size := PySem.W.hideAll_size _ _
theorem QC {h:Heap} {H:Hp} {b:Addr} {o:Obj} (e:h.get? b = some o) (n:H b = none):(hidT h H).get? b = some o :=
 PySem.W.hideAll_get _ e fun hm => by
   have q:(H b).isSome = true := (List.mem_filter.mp hm).2
   rw [n] at q; simp at q
theorem Jn {h:Heap} {H:Hp} {b:Addr} {o:Obj} (e:(hidT h H).get? b = some o):h.get? b = some o /\ H b = none := by
 have e':h.get? b = some o := PySem.W.of_hideAll (trk h H) e
 refine ⟨e',?_⟩
 cases q:H b with
 | none => rfl
 | some x =>
   have hm:b ∈ trk h H := List.mem_filter.mpr ⟨List.mem_range.mpr (Heap.lt_size e'),by simp [q]⟩
   have z:(hidT h H).get? b = none := PySem.W.hideAll_none (trk h H) hm
   rw [z] at e; cases e
end _L2
namespace _L2
open PySem PySem.Spec PyProof.Rows
structure Mod (K:PySem.W.Frag) (mg:Str -> Option Value) (base:Heap):Prop where
 kin:K.In base
 glob:base.Ns mainGlobals mg
 blt:∃ mb,base.Ns builtinsNs mb /\ ∀ x:Str,x ≠ "__name__" -> mb x = bootBuiltins x
 nolimit:base.NoLimit
structure Cx where
 prog:Program
 w:World
 K:PySem.W.Frag
 mg:Str -> Option Value
 base:Heap
 A:Around
 N:List Str
 s₀:Shared
 H₀:Hp
 env:Env
 outer:List Env
 stack:List Env
 ex:List Addr
 fn:Str -> Bool
 calm:Bool
 pn:List (Addr × Obj)
 xe:Value -> Shared -> Prop
noncomputable def frs (l:List Env):List Addr := l.filterMap (·.frame)
noncomputable abbrev Cx.fs (X:Cx):List Addr := frs X.outer
noncomputable def Vis (sc:Scope) (x:Str):Prop := sc.names.lookup x = some .local \/ sc.names.lookup x = some .cell \/ sc.names.lookup x = some .free
noncomputable def Loc (sc:Scope) (x:Str):Prop := sc.names.lookup x = some .local \/ sc.names.lookup x = some .cell
noncomputable def Look (env:Env) (h:Heap) (m:Str -> Option Value) (x:Str) (u:Value):Prop :=
 (env.kindOf x = some .local /\ m x = some u) \/ ((env.kindOf x = some .cell \/ env.kindOf x = some .free) /\ ∃ c,env.cells.lookup x = some c /\ h.IsCell c (some u))
structure Cx.Ok (X:Cx):Prop where
 mod:Mod X.K X.mg X.base
 kind:X.env.scope.kind = .function
 glob:X.env.globals = mainGlobals
 blt:X.env.builtins = builtinsNs
 above:X.s₀.heap.objs.size <= X.env.locals
 inj:∀ x y c,X.env.cells.lookup x = some c -> X.env.cells.lookup y = some c -> x = y
 has:∀ x,(X.env.kindOf x = some .cell \/ X.env.kindOf x = some .free) -> ∃ c,X.env.cells.lookup x = some c
 cab:∀ x c,X.fn x = true -> X.env.cells.lookup x = some c -> X.s₀.heap.objs.size <= c
 hd:X.calm = true -> X.A.handled = none
 frames:X.A.frames = some X.stack
 stk:X.stack = X.outer \/ (X.stack = X.env :: X.outer /\ X.env.frame = some X.env.locals)
 exf:∀ b ∈ X.ex,b ≠ X.env.locals /\ ∀ x c,X.env.cells.lookup x = some c -> c ≠ b
 bs:∀ b o,X.base.get? b = some o -> X.s₀.heap.get? b = some o /\ X.H₀ b = none
 bsz:X.base.objs.size <= X.s₀.heap.objs.size
 noex:∀ b o,X.base.get? b = some o -> b ∉ X.ex
 exfs:∀ b ∈ X.ex,b ∉ X.fs
 funs:X.s₀.heap.FunFrames X.base X.outer
 frf:∀ b ∈ X.fs,X.H₀ b = none
structure Inv (X:Cx) (pins:List (Addr × Obj)) (σ:List (Option V)) (H:Hp) (s:Shared):Prop where
 ok:X.Ok
 os:s.os = X.s₀.os
 bare:AllBare s.gens
 base:Un X.fs X.ex X.H₀ H X.s₀.heap s.heap
 loc:∃ m,s.heap.Ns X.env.locals m /\ ∀ (i:Nat) (x:Str) (v:V),X.N[i]? = some x -> σ[i]? = some (some v) -> Vis X.env.scope x -> ∃ u,RelV v u /\ Look X.env s.heap m x u
 cell:∀ x c,X.env.cells.lookup x = some c -> ∃ v,s.heap.IsCell c v
 free:H X.env.locals = none
 freeC:∀ x c,X.env.cells.lookup x = some c -> H c = none
 pin:∀ p ∈ X.pn ++ pins,s.heap.get? p.1 = some p.2 /\ H p.1 = none /\ p.1 ≠ X.env.locals /\ p.1 ∉ X.fs /\ ∀ v,p.2.data ≠ .cell v
 hok:HOk X.prog X.w H s.heap
 len:σ.length = X.N.length
section
variable {X:Cx} {pins:List (Addr × Obj)} {σ:List (Option V)} {H H':Hp} {s:Shared} {h':Heap}
theorem Cx.Ok.nofr (ok:X.Ok) {b:Addr} {o:Obj} (e:X.base.get? b = some o):b ∉ X.fs := fun hb => by
 have := (ok.funs.mem hb).1
 rw [e] at this; cases this
theorem Inv.bs (I:Inv X pins σ H s):∀ b o,X.base.get? b = some o -> s.heap.get? b = some o /\ H b = none := fun b o e =>
 ⟨I.base.keep b o (I.ok.bs b o e).1 (I.ok.bs b o e).2 (I.ok.nofr e) (I.ok.noex b o e),I.base.free b o (I.ok.bs b o e).1 (I.ok.bs b o e).2 (I.ok.noex b o e)⟩
theorem Inv.bk (I:Inv X pins σ H s):∀ b o,X.base.get? b = some o -> s.heap.get? b = some o := fun b o e => (I.bs b o e).1
theorem Inv.mod (I:Inv X pins σ H s):Mod X.K X.mg X.base := I.ok.mod
theorem Inv.kIn (I:Inv X pins σ H s):X.K.In s.heap := I.ok.mod.kin.keeps I.bk
theorem Inv.nolimit (I:Inv X pins σ H s):s.heap.NoLimit := I.ok.mod.nolimit.keeps I.bk
theorem Inv.lt (I:Inv X pins σ H s):X.env.locals < s.heap.objs.size := let ⟨_,hn,_⟩ := I.loc; hn.lt
theorem Inv.sz (I:Inv X pins σ H s):X.s₀.heap.objs.size <= s.heap.objs.size := Nat.le_trans I.ok.above (Nat.le_of_lt I.lt)
theorem Inv.nofs (I:Inv X pins σ H s) {a:Addr} (h:s.heap.objs.size <= a):a ∉ X.fs := fun hb => by
 obtain ⟨_,o,ho,_⟩ := I.ok.funs.mem hb
 exact absurd (Nat.lt_of_lt_of_le (Heap.lt_size ho) (Nat.le_trans I.sz h)) (Nat.lt_irrefl _)
theorem Inv.cne (I:Inv X pins σ H s):∀ x c,X.env.cells.lookup x = some c -> c ≠ X.env.locals := fun x c e z => by
 obtain ⟨v,o,ho,hd⟩ := I.cell x c e
 obtain ⟨m,⟨o',es,ep,ho',hd',_⟩,_⟩ := I.loc
 rw [z,ho'] at ho; cases ho; rw [hd'] at hd; cases hd
theorem Inv.funs (I:Inv X pins σ H s):s.heap.FunFrames X.base X.outer := by
 have all:∀ (l:List Env),(∀ b ∈ frs l,b ∈ X.fs) -> X.s₀.heap.FunFrames X.base l -> s.heap.FunFrames X.base l := by
   intro l
   induction l with
   | nil => intro _ _; trivial
   | cons env r ih =>
     intro hs hl
     obtain ⟨hk,⟨L,o,hf,hn,ho,hd⟩,hr⟩ := hl
     have hL:L ∈ X.fs := hs L (by unfold frs; rw [List.filterMap_cons,hf]; exact List.mem_cons_self)
     obtain ⟨sl,e⟩ := I.base.slot L o ho (I.ok.frf L hL) hL fun z => I.ok.exfs L z hL
     exact ⟨hk,⟨L,_,hf,hn,e,hd⟩,ih (fun b hb => hs b (by unfold frs; rw [List.filterMap_cons,hf]; exact List.mem_cons_of_mem _ hb)) hr⟩
 exact all X.outer (fun _ hb => hb) I.ok.funs
theorem Inv.stack (I:Inv X pins σ H s):s.heap.FunFrames X.base X.stack := by
 rcases I.ok.stk with e | ⟨e,hf⟩
 · rw [e]; exact I.funs
 · rw [e]
   obtain ⟨m,hn,_⟩ := I.loc
   refine .cons (by rw [I.ok.kind]; decide) hf hn ?_ I.funs
   exact Heap.get?_none_of_le (Nat.le_trans I.ok.bsz I.ok.above)
theorem Inv.stkSub (I:Inv X pins σ H s):∀ b ∈ frs X.stack,b ∈ X.env.locals :: X.fs := fun b hb => by
 rcases I.ok.stk with e | ⟨e,hf⟩
 · rw [e] at hb; exact List.mem_cons_of_mem _ hb
 · rw [e] at hb
   unfold frs at hb
   rw [List.filterMap_cons,hf] at hb
   exact hb
theorem Inv.stkFree (I:Inv X pins σ H s):∀ b ∈ frs X.stack,H b = none := fun b hb => by
 rcases List.mem_cons.mp (I.stkSub b hb) with e | hb
 · rw [e]; exact I.free
 · obtain ⟨_,o,ho,_⟩ := I.ok.funs.mem hb
   exact I.base.free b o ho (I.ok.frf b hb) fun z => I.ok.exfs b z hb
theorem Inv.step {g':Array GenState} {t':Nat} {d':Drawn} {ch:List Addr} (I:Inv X pins σ H s)
   (hch:∀ b ∈ ch,(b ∈ X.ex \/ X.s₀.heap.objs.size <= b) /\ b ≠ X.env.locals /\ (∀ x c,X.env.cells.lookup x = some c -> c ≠ b) /\ ∀ p ∈ X.pn ++ pins,p.1 ≠ b)
   (keep:∀ b o,b ≠ X.env.locals -> b ∉ X.fs -> b ∉ ch -> s.heap.get? b = some o -> H b = none -> h'.get? b = some o)
   (slot:∀ b o,b ≠ X.env.locals -> b ∈ X.fs -> b ∉ ch -> s.heap.get? b = some o -> H b = none -> ∃ sl,h'.get? b = some { o with slots := sl }) (free:∀ b o,b ∉ ch -> s.heap.get? b = some o -> H b = none -> H' b = none)
   (there:∀ b o,b ∉ ch -> s.heap.get? b = some o -> ∃ o',h'.get? b = some o')
   (tups:∀ b xs,H b = some (.tup xs) -> H' b = some (.tup xs)) (frzs:∀ b o u,H b = some (.frz o u) -> H' b = some (.frz o u)) (tbls:∀ b ps,H b = some (.tbl ps) -> ∃ more,H' b = some (.tbl (ps ++ more)))
   (ns:∀ m,s.heap.Ns X.env.locals m -> h'.Ns X.env.locals m) (hok:HOk X.prog X.w H' h') (hg:AllBare g') :
   Inv X pins σ H' { s with heap := h',gens := g',drawn := d',toks := t' } := by
 have neL:∀ b o,X.s₀.heap.get? b = some o -> b ≠ X.env.locals := fun b o e => Nat.ne_of_lt (Nat.lt_of_lt_of_le (Heap.lt_size e) I.ok.above)
 have neC:∀ b o,X.s₀.heap.get? b = some o -> b ∉ X.ex -> b ∉ ch := fun b o e hx hb => by
   rcases (hch b hb).1 with z | z
   · exact hx z
   · exact absurd (Nat.lt_of_lt_of_le (Heap.lt_size e) z) (Nat.lt_irrefl _)
 have cellK:∀ x c,X.env.cells.lookup x = some c -> ∀ v,s.heap.IsCell c v -> h'.IsCell c v := fun x c e v ⟨o,ho,hd⟩ => by
   have nch:c ∉ ch := fun z => (hch c z).2.2.1 x c e rfl
   by_cases hc:c ∈ X.fs
   · obtain ⟨sl,q⟩ := slot c o (I.cne x c e) hc nch ho (I.freeC x c e)
     exact ⟨_,q,hd⟩
   · exact ⟨o,keep c o (I.cne x c e) hc nch ho (I.freeC x c e),hd⟩
 refine ⟨I.ok,I.os,hg,⟨fun b o e n hb hx => ?_,fun b o e n hb hx => ?_,fun b o e n hx => ?_,fun b o e hx => ?_,fun b xs e => tups b xs (I.base.tups b xs e),fun b o xs e => frzs b o xs (I.base.frzs b o xs e),fun b ps e => ?_⟩,?_,fun x c e => ?_,?_,fun x c e => ?_,fun p hp => ?_,hok,I.len⟩
 · exact keep b o (neL b o e) hb (neC b o e hx) (I.base.keep b o e n hb hx) (I.base.free b o e n hx)
 · obtain ⟨sl,e1⟩ := I.base.slot b o e n hb hx
   obtain ⟨sl',e2⟩ := slot b _ (neL b o e) hb (neC b o e hx) e1 (I.base.free b o e n hx)
   exact ⟨sl',e2⟩
 · obtain ⟨o',e1⟩ := I.base.there b o e hx
   exact free b o' (neC b o e hx) e1 (I.base.free b o e n hx)
 · obtain ⟨o',e1⟩ := I.base.there b o e hx
   exact there b o' (neC b o e hx) e1
 · obtain ⟨m1,e1⟩ := I.base.tbls b ps e
   obtain ⟨m2,e2⟩ := tbls b _ e1
   exact ⟨m1 ++ m2,by rw [e2,Array.append_assoc]⟩
 · obtain ⟨m,hn,hl⟩ := I.loc
   refine ⟨m,ns m hn,fun i x v e1 e2 e3 => ?_⟩
   obtain ⟨u,r,l⟩ := hl i x v e1 e2 e3
   refine ⟨u,r,?_⟩
   rcases l with l | ⟨k,c,e,z⟩
   · exact .inl l
   · exact .inr ⟨k,c,e,cellK x c e _ z⟩
 · obtain ⟨v,z⟩ := I.cell x c e
   exact ⟨v,cellK x c e v z⟩
 · obtain ⟨m,⟨o,_,_,ho,_⟩,_⟩ := I.loc
   exact free _ o (fun z => (hch _ z).2.1 rfl) ho I.free
 · obtain ⟨v,o,ho,hd⟩ := I.cell x c e
   exact free c o (fun z => (hch c z).2.2.1 x c e rfl) ho (I.freeC x c e)
 · obtain ⟨e,n,ne,nf,d⟩ := I.pin p hp
   have nch:p.1 ∉ ch := fun z => (hch p.1 z).2.2.2 p hp rfl
   exact ⟨keep p.1 p.2 ne nf nch e n,free p.1 p.2 nch e n,ne,nf,d⟩
theorem Inv.un {t':Nat} (I:Inv X pins σ H s) (u:Un X.fs [] H H' s.heap h') (hok:HOk X.prog X.w H' h'):Inv X pins σ H' { s with heap := h',toks := t' } := by
 obtain ⟨m,⟨o,es,ep,ho,r⟩,_⟩ := id I.loc
 obtain ⟨sl,hL⟩ := u.any ho I.free (by simp)
 exact I.step (g' := s.gens) (d' := s.drawn) (ch := []) (fun _ z => nomatch z) (fun b o _ hb _ e n => u.keep b o e n hb (by simp)) (fun b o _ hb _ e n => u.slot b o e n hb (by simp)) (fun b o _ e n => u.free b o e n (by simp)) (fun b o _ e => u.there b o e (by simp)) u.tups u.frzs u.tbls (fun m' hm => by
   obtain ⟨o',es',ep',ho',r'⟩ := hm
   rw [ho] at ho'; cases ho'
   exact ⟨_,es',ep',hL,r'⟩) hok I.bare
theorem Inv.call {g':Array GenState} {t':Nat} {d':Drawn} {ch:List Addr} (I:Inv X pins σ H s) (u:Un (frs X.stack) ch H H' s.heap h') (hok:HOk X.prog X.w H' h') (hg:AllBare g')
   (hch:∀ b ∈ ch,(b ∈ X.ex \/ X.s₀.heap.objs.size <= b) /\ b ≠ X.env.locals /\ (∀ x c,X.env.cells.lookup x = some c -> c ≠ b) /\ ∀ p ∈ X.pn ++ pins,p.1 ≠ b) :
   Inv X pins σ H' { s with heap := h',gens := g',drawn := d',toks := t' } := by
 obtain ⟨m,⟨o,es,ep,ho,r⟩,_⟩ := id I.loc
 obtain ⟨sl,hL⟩ := u.any ho I.free fun z => (hch _ z).2.1 rfl
 exact I.step (ch := ch) hch (fun b o hL hb hc e n => u.keep b o e n (fun z => (List.mem_cons.mp (I.stkSub b z)).elim hL hb) hc) (fun b o _ _ hc e n => u.any e n hc) (fun b o hc e n => u.free b o e n hc) (fun b o hc e => u.there b o e hc) u.tups u.frzs u.tbls (fun m' hm => by
   obtain ⟨o',es',ep',ho',r'⟩ := hm
   rw [ho] at ho'; cases ho'
   exact ⟨_,es',ep',hL,r'⟩) hok hg
theorem Inv.turned {t':Nat} {it:Addr} (I:Inv X pins σ H s) (k:∀ b o,b ≠ it -> s.heap.get? b = some o -> h'.get? b = some o) (hn:H it = none) (hL:it ≠ X.env.locals)
   (h1:it ∈ X.ex \/ X.s₀.heap.objs.size <= it) (h2:∀ x c,X.env.cells.lookup x = some c -> c ≠ it) (h3:∀ p ∈ X.pn ++ pins,p.1 ≠ it):Inv X pins σ H { s with heap := h',toks := t' } := by
 have nit:∀ b u,H b = some u -> b ≠ it := fun b u e z => by rw [z,hn] at e; cases e
 refine I.step (g' := s.gens) (d' := s.drawn) (ch := [it]) (fun b hb => ?_) (fun b o _ _ hc e _ => k b o (fun z => hc (by simp [z])) e) (fun b o _ _ hc e _ => ⟨o.slots,k b o (fun z => hc (by simp [z])) e⟩) (fun _ _ _ _ n => n)
   (fun b o hc e => ⟨o,k b o (fun z => hc (by simp [z])) e⟩) (fun _ _ e => e) (fun _ _ _ e => e) (fun b ps e => ⟨#[],by rw [e]; simp⟩) (fun m hm => ?_) (fun b u e => ?_) I.bare
 · have e:b = it := by simpa using hb
   subst e
   exact ⟨h1,hL,h2,h3⟩
 · obtain ⟨o,es,ep,ho,r⟩ := hm
   exact ⟨o,es,ep,k _ o (Ne.symm hL) ho,r⟩
 · refine (I.hok b u e).stay (fun c v hc q => k c v ?_ q) (fun _ q => q) fun _ _ q => q
   rcases hc with z | z
   · rw [z]; exact nit b u e
   · exact nit c _ z
theorem Inv.tok (I:Inv X pins σ H s) (t:Nat):Inv X pins σ H { s with toks := t } := I.un (h' := s.heap) (t' := t) Un.refl I.hok
theorem Inv.kept {t':Nat} (I:Inv X pins σ H s) (k:∀ b u,s.heap.get? b = some u -> h'.get? b = some u):Inv X pins σ H { s with heap := h',toks := t' } := I.un (Un.kept k) (I.hok.kept k)
theorem Inv.laid {a:Addr} {o:HO} {t':Nat} (I:Inv X pins σ H s) (k:∀ b u,s.heap.get? b = some u -> h'.get? b = some u) (hp:s.heap.objs.size <= a) (new:z7 X.prog X.w (upd H a o) h' a o) :
   Inv X pins σ (upd H a o) { s with heap := h',toks := t' } := I.un (Un.laid k hp (I.hok.fresh hp)) (I.hok.laid k hp new)
theorem Inv.write {x e:Addr} {o:HO} {t':Nat} (I:Inv X pins σ H s) (mu:Mut (H x)) (he:e = x \/ H e = some (.own x)) (k:∀ b u,b ≠ e -> s.heap.get? b = some u -> h'.get? b = some u) (heo:∃ u,h'.get? e = some u)
   (new:z7 X.prog X.w (upd H x o) h' x o):Inv X pins σ (upd H x o) { s with heap := h',toks := t' } := I.un (Un.write mu he k heo) (I.hok.write mu he k heo new)
theorem Inv.pins_of {pins':List (Addr × Obj)} (I:Inv X pins σ H s) (h:∀ p ∈ pins',s.heap.get? p.1 = some p.2 /\ H p.1 = none /\ p.1 ≠ X.env.locals /\ p.1 ∉ X.fs /\ ∀ v,p.2.data ≠ .cell v):Inv X pins' σ H s :=
 ⟨I.ok,I.os,I.bare,I.base,I.loc,I.cell,I.free,I.freeC,fun p hp => (List.mem_append.mp hp).elim (fun z => I.pin p (List.mem_append_left _ z)) (h p),I.hok,I.len⟩
theorem jy {N:List Str} (hN:N.Nodup) {i j:Nat} {x:Str} (a:N[i]? = some x) (b:N[j]? = some x):i = j := by
 obtain ⟨h1,e1⟩ := List.getElem?_eq_some_iff.mp a
 obtain ⟨h2,e2⟩ := List.getElem?_eq_some_iff.mp b
 exact (List.getElem_inj hN).mp (e1.trans e2.symm)
theorem Wq {M:Model} {A:Around} {E:Value -> Shared -> Prop} {i:Nat} {x:Str} {v:V} {u:Value} {Q:Unit -> Shared -> Prop} (I:Inv X pins σ H s) (hN:X.N.Nodup) (hi:X.N[i]? = some x) (hx:Loc X.env.scope x) (r:RelV v u)
   (h:∀ s',Inv X pins (σ.set i (some v)) H s' -> (∃ a,Heap.SameBut a s.heap s'.heap /\ (a = X.env.locals \/ X.env.cells.lookup x = some a)) -> Q () s') (hf:X.fn x = true \/ X.env.scope.names.lookup x = some .local := by first | exact .inl rfl | exact .inr rfl | assumption):wpAny M A (storeName X.env x u) Q E s := by
 obtain ⟨m,hn,hl⟩ := id I.loc
 have hcls:(X.env.scope.kind == .class || (X.env.scope.kind == .module && X.env.locals != X.env.globals)) = false := by rw [I.ok.kind]; rfl
 have hiσ:i < σ.length := by rw [I.len]; exact (List.getElem?_eq_some_iff.mp hi).1
 have cne := I.cne
 have tracked:∀ {a:Addr} {h':Heap},(∃ o,s.heap.get? a = some o /\ H a = none) -> Heap.SameBut a s.heap h' -> HOk X.prog X.w H h' := fun {a h'} ha hs b ob e => by
   obtain ⟨_,_,hfree⟩ := ha
   refine (I.hok b ob e).stay (fun c w' hc q => (hs.2 c ?_).trans q) (fun _ q => q) fun _ _ q => q
   rintro rfl
   rcases hc with rfl | hc
   · rw [hfree] at e; cases e
   · rw [hfree] at hc; cases hc
 rcases hx with hk | hk
 · refine wpAny_storeName_local hk hn (fun h' hn' hs => ?_) hcls
   obtain ⟨oL,_,_,hoL,_⟩ := id hn
   refine h _ ⟨I.ok,I.os,I.bare,⟨fun b o e n hb hx => ?_,fun b o e n hb hx => ?_,I.base.free,fun b o e hx => ?_,I.base.tups,I.base.frzs,I.base.tbls⟩,⟨_,hn',fun j y v' e1 e2 e3 => ?_⟩,fun y c e => ?_,I.free,I.freeC,fun p hp => ?_,tracked ⟨oL,hoL,I.free⟩ hs,by simpa using I.len⟩ ⟨_,hs,.inl rfl⟩
   · exact (hs.2 b (Nat.ne_of_lt (Nat.lt_of_lt_of_le (Heap.lt_size e) I.ok.above))).trans (I.base.keep b o e n hb hx)
   · obtain ⟨sl,e1⟩ := I.base.slot b o e n hb hx
     exact ⟨sl,(hs.2 b (Nat.ne_of_lt (Nat.lt_of_lt_of_le (Heap.lt_size e) I.ok.above))).trans e1⟩
   · obtain ⟨o',e1⟩ := I.base.there b o e hx
     exact ⟨o',(hs.2 b (Nat.ne_of_lt (Nat.lt_of_lt_of_le (Heap.lt_size e) I.ok.above))).trans e1⟩
   · by_cases hj:j = i
     · subst hj
       rw [hi] at e1; cases e1
       rw [List.getElem?_set_self hiσ] at e2
       cases e2
       exact ⟨u,r,.inl ⟨hk,by simp⟩⟩
     · rw [List.getElem?_set_ne (Ne.symm hj)] at e2
       obtain ⟨u',r',q⟩ := hl j y v' e1 e2 e3
       refine ⟨u',r',?_⟩
       rcases q with ⟨k,e⟩ | ⟨k,c,e,z⟩
       · refine .inl ⟨k,?_⟩
         have:y ≠ x := fun e => hj (jy hN e1 (e ▸ hi))
         simp [this,e]
       · exact .inr ⟨k,c,e,z.sameBut hs (cne y c e)⟩
   · obtain ⟨w',z⟩ := I.cell y c e
     exact ⟨w',z.sameBut hs (cne y c e)⟩
   · obtain ⟨e,n,ne,nf,d⟩ := I.pin p hp
     exact ⟨(hs.2 p.1 ne).trans e,n,ne,nf,d⟩
 · have hfn:X.fn x = true := by
     rcases hf with z | z
     · exact z
     · rw [z] at hk; cases hk
   obtain ⟨c,hc⟩ := I.ok.has x (.inl hk)
   obtain ⟨w',z⟩ := I.cell x c hc
   refine wpAny_storeName_cell I.ok.kind hk hc z (fun h' hc' hs => ?_)
   obtain ⟨oc,hoc,hocd⟩ := id z
   refine h { s with heap := h' } ⟨I.ok,I.os,I.bare,⟨fun b o e n hb hx => ?_,fun b o e n hb hx => ?_,I.base.free,fun b o e hx => ?_,I.base.tups,I.base.frzs,I.base.tbls⟩,⟨m,hn.sameBut hs (Ne.symm (cne x c hc)),fun j y v' e1 e2 e3 => ?_⟩,fun y c' e => ?_,I.free,I.freeC,fun p hp => ?_,tracked ⟨oc,hoc,I.freeC x c hc⟩ hs,by simpa using I.len⟩ ⟨c,hs,.inr hc⟩
   · exact (hs.2 b (Nat.ne_of_lt (Nat.lt_of_lt_of_le (Heap.lt_size e) (I.ok.cab x c hfn hc)))).trans (I.base.keep b o e n hb hx)
   · obtain ⟨sl,e1⟩ := I.base.slot b o e n hb hx
     exact ⟨sl,(hs.2 b (Nat.ne_of_lt (Nat.lt_of_lt_of_le (Heap.lt_size e) (I.ok.cab x c hfn hc)))).trans e1⟩
   · obtain ⟨o',e1⟩ := I.base.there b o e hx
     exact ⟨o',(hs.2 b (Nat.ne_of_lt (Nat.lt_of_lt_of_le (Heap.lt_size e) (I.ok.cab x c hfn hc)))).trans e1⟩
   · by_cases hj:j = i
     · subst hj
       rw [hi] at e1; cases e1
       rw [List.getElem?_set_self hiσ] at e2
       cases e2
       exact ⟨u,r,.inr ⟨.inl hk,c,hc,hc'⟩⟩
     · rw [List.getElem?_set_ne (Ne.symm hj)] at e2
       obtain ⟨u',r',q⟩ := hl j y v' e1 e2 e3
       refine ⟨u',r',?_⟩
       rcases q with q | ⟨k,c',e,z'⟩
       · exact .inl q
       · refine .inr ⟨k,c',e,z'.sameBut hs ?_⟩
         rintro rfl
         exact hj (jy hN e1 (I.ok.inj _ _ _ e hc ▸ hi))
   · by_cases hcc:c' = c
     · subst hcc; exact ⟨_,hc'⟩
     · obtain ⟨w2,z2⟩ := I.cell y c' e
       exact ⟨w2,z2.sameBut hs hcc⟩
   · obtain ⟨e,n,ne,nf,d⟩ := I.pin p hp
     refine ⟨(hs.2 p.1 ?_).trans e,n,ne,nf,d⟩
     intro q
     rw [q,hoc] at e
     have q':oc = p.2 := Option.some.inj e
     exact d w' (by rw [<- q']; exact hocd)
theorem jz {M:Model} {A:Around} {E:Value -> Shared -> Prop} {i:Nat} {x:Str} {v:V} {u:Value} {Q:Unit -> Shared -> Prop} (I:Inv X pins σ H s) (hN:X.N.Nodup) (hi:X.N[i]? = some x) (hx:Loc X.env.scope x) (r:RelV v u)
   (h:∀ s',Inv X pins (σ.set i (some v)) H s' -> Q () s') (hf:X.fn x = true \/ X.env.scope.names.lookup x = some .local := by first | exact .inl rfl | exact .inr rfl | assumption):wpAny M A (storeName X.env x u) Q E s :=
 Wq I hN hi hx r (fun s' I' _ => h s' I') hf
theorem Inv.call' {s':Shared} {ch:List Addr} (I:Inv X pins σ H s) (ho:s'.os = s.os) (u:Un (frs X.stack) ch H H' s.heap s'.heap) (hok:HOk X.prog X.w H' s'.heap) (hg:AllBare s'.gens)
   (hch:∀ b ∈ ch,(b ∈ X.ex \/ X.s₀.heap.objs.size <= b) /\ b ≠ X.env.locals /\ (∀ x c,X.env.cells.lookup x = some c -> c ≠ b) /\ ∀ p ∈ X.pn ++ pins,p.1 ≠ b):Inv X pins σ H' s' := by
 obtain ⟨h',g',d',t',o'⟩ := s'
 have e:o' = s.os := ho
 subst e
 exact I.call (g' := g') (t' := t') (d' := d') u hok hg hch
end
abbrev XK := Value -> Option Addr -> Hp -> Prop
abbrev St := List (Option V)
abbrev VK := V -> Hp -> Prop
abbrev TE := St -> Hp -> VK -> Prop
abbrev TT := St -> Hp -> (Bool -> Hp -> Prop) -> Prop
abbrev TA := St -> Hp -> (List V -> Hp -> Prop) -> Prop
structure Ends where
 nx:St -> Hp -> Prop
 rt:VK
 bk:St -> Hp -> Prop := fun _ _ => False
 ct:St -> Hp -> Prop := fun _ _ => False
abbrev TS := Ends -> St -> Hp -> Prop
noncomputable def EP (X:Cx) (pins:List (Addr × Obj)) (σ:St) (Q:VK) (u:Value) (s':Shared):Prop := ∃ v H',Inv X pins σ H' s' /\ RelV v u /\ Q v H'
noncomputable def TP (X:Cx) (pins:List (Addr × Obj)) (σ:St) (Q:Bool -> Hp -> Prop) (b:Bool) (s':Shared):Prop := ∃ H',Inv X pins σ H' s' /\ Q b H'
noncomputable def AP (X:Cx) (pins:List (Addr × Obj)) (σ:St) (Q:List V -> Hp -> Prop) (us:List Value) (s':Shared):Prop := ∃ vs H',Inv X pins σ H' s' /\ Vals vs us /\ Q vs H'
noncomputable def SP (X:Cx) (pins:List (Addr × Obj)) (D:Ends) (f:Flow) (s':Shared):Prop :=
 match f with
 | .next => ∃ σ' H',Inv X pins σ' H' s' /\ D.nx σ' H'
 | .brk => ∃ σ' H',Inv X pins σ' H' s' /\ D.bk σ' H'
 | .cont => ∃ σ' H',Inv X pins σ' H' s' /\ D.ct σ' H'
 | .ret u => ∃ v σ' H',Inv X pins σ' H' s' /\ RelV v u /\ D.rt v H'
noncomputable def PE (X:Cx) (e:Expr) (t:TE):Prop :=
 ∀ (pins:List (Addr × Obj)) (s:Shared) (σ:St) (H:Hp) (Q:VK),Inv X pins σ H s -> t σ H Q -> wpAny (model X.prog X.w) X.A (eval e X.env) (EP X pins σ Q) X.xe s
noncomputable def PT (X:Cx) (e:Expr) (t:TT):Prop :=
 ∀ (pins:List (Addr × Obj)) (s:Shared) (σ:St) (H:Hp) (Q:Bool -> Hp -> Prop),Inv X pins σ H s -> t σ H Q -> wpAny (model X.prog X.w) X.A (isTrue e X.env (eval e X.env)) (TP X pins σ Q) X.xe s
noncomputable def PW (X:Cx) (e:Expr) (t:TT):Prop :=
 ∀ (whole:Sem Value) (pins:List (Addr × Obj)) (s:Shared) (σ:St) (H:Hp) (Q:Bool -> Hp -> Prop),Inv X pins σ H s -> t σ H Q -> wpAny (model X.prog X.w) X.A (isTrue e X.env whole) (TP X pins σ Q) X.xe s
theorem PW.pt {X:Cx} {e:Expr} {t:TT} (h:PW X e t):PT X e t := h _
noncomputable def PA (X:Cx) (es:List Expr) (t:TA):Prop :=
 ∀ (pos:Pos) (pins:List (Addr × Obj)) (s:Shared) (σ:St) (H:Hp) (Q:List V -> Hp -> Prop),Inv X pins σ H s -> t σ H Q -> wpAny (model X.prog X.w) X.A (spliced (backTo pos (starEach es X.env))) (AP X pins σ Q) X.xe s
noncomputable def PS (X:Cx) (st:Stmt) (t:TS):Prop :=
 ∀ (pins:List (Addr × Obj)) (s:Shared) (σ:St) (H:Hp) (D:Ends),Inv X pins σ H s -> t D σ H -> wpAny (model X.prog X.w) X.A (exec st X.env) (SP X pins D) X.xe s
noncomputable def PSs (X:Cx) (st:List Stmt) (t:TS):Prop :=
 ∀ (pins:List (Addr × Obj)) (s:Shared) (σ:St) (H:Hp) (D:Ends),Inv X pins σ H s -> t D σ H -> wpAny (model X.prog X.w) X.A (execs st X.env) (SP X pins D) X.xe s
theorem thn {α:Type} {t:Sem α} {Q Q':α -> Shared -> Prop} {M:Model} {A:Around} {E:Value -> Shared -> Prop} {s:Shared} (h:wpAny M A t Q E s) (hQ:∀ a s,Q a s -> Q' a s):wpAny M A t Q' E s := wpAny_mono h hQ fun _ _ x => x
end _L2
namespace _L2
open PySem PySem.Spec PyProof.Rows
section
variable {X:Cx}
noncomputable def tVar (i:Nat):TE := fun σ H Q => ∃ v,σ[i]? = some (some v) /\ Q v H
noncomputable def tC (v:V):TE := fun _ H Q => Q v H
theorem zah {i:Nat} {x:Str} {pos:Pos} (hN:X.N[i]? = some x) (hv:Vis X.env.scope x) (hd:(x == ("__debug__" : Str)) = false := by decide) (hcd:(x == ("__classdict__" : Str)) = false := by decide):PE X (.Name x pos) (tVar i) := by
 intro pins s σ H Q I h
 obtain ⟨v,e,h⟩ := h
 obtain ⟨m,hn,hl⟩ := I.loc
 obtain ⟨u,r,l⟩ := hl i x v hN e hv
 have fin:EP X pins σ Q u s := ⟨v,H,I,r,h⟩
 rcases l with ⟨hk,hm⟩ | ⟨hk,c,hc,hcell⟩
 · exact wpAny_Name (wpAny_loadName_local I.ok.kind hk hn hm fin) hd
 · rcases hk with hk | hk
   · exact wpAny_Name (wpAny_loadName_cell I.ok.kind hk hc hcell fin) hd
   · exact wpAny_Name (wpAny_loadName_free I.ok.kind hk hc hcell fin hcd) hd
theorem ze {i j pos}:PE X (.Constant (.int i) j pos) (tC (.int i)) := fun _ _ _ H _ I h => wpAny_Constant_int ⟨.int i,H,I.tok _,⟨_,rfl⟩,h⟩
theorem yT {b j pos}:PE X (.Constant (.bool b) j pos) (tC (.bl b)) := fun _ _ _ H _ I h => Constant_bool ⟨.bl b,H,I,rfl,h⟩
theorem jM {j pos}:PE X (.Constant .none j pos) (tC .non) := fun _ _ _ H _ I h => Constant_none ⟨.non,H,I,rfl,h⟩
theorem zP {x j pos}:PE X (.Constant (.str x) j pos) (tC (.str x)) := fun _ _ _ H _ I h => Calls.Constant_str ⟨.str x,H,I.tok _,⟨_,rfl⟩,h⟩
noncomputable def Gl (X:Cx) (x:Str):Prop := X.env.kindOf x = some .globalImplicit
theorem xk {E:Value -> Shared -> Prop} {pins:List (Addr × Obj)} {s:Shared} {σ:St} {H:Hp} {x:Str} {u:Value} {pos:Pos} {Q:Value -> Shared -> Prop} (I:Inv X pins σ H s) (hg:Gl X x) (hm:X.mg x = some u) (h:Q u s)
   (hd:(x == ("__debug__" : Str)) = false := by decide):wpAny (model X.prog X.w) X.A (eval (.Name x pos) X.env) Q E s :=
 Calls.Name_function_global I.ok.kind hg (Calls.loadGlobal_global (by rw [I.ok.glob]; exact I.mod.glob.keeps I.bk) hm h) hd
theorem xg {E:Value -> Shared -> Prop} {pins:List (Addr × Obj)} {s:Shared} {σ:St} {H:Hp} {x:Str} {u:Value} {pos:Pos} {Q:Value -> Shared -> Prop} (I:Inv X pins σ H s) (hg:Gl X x) (hm:X.mg x = none) (hv:bootBuiltins x = some u) (h:Q u s)
   (hn:x ≠ "__name__" := by decide) (hd:(x == ("__debug__" : Str)) = false := by decide):wpAny (model X.prog X.w) X.A (eval (.Name x pos) X.env) Q E s := by
 obtain ⟨mb,h1,h2⟩ := I.mod.blt
 exact Calls.Name_function_global I.ok.kind hg (Calls.loadGlobal_builtin (by rw [I.ok.glob]; exact I.mod.glob.keeps I.bk) hm (by rw [I.ok.blt]; exact h1.keeps I.bk) ((h2 x hn).trans hv) h) hd
theorem j9 {x:Str} {v:V} {u:Value} {pos:Pos} (hg:Gl X x) (hm:X.mg x = some u) (r:RelV v u) (hd:(x == ("__debug__" : Str)) = false := by decide):PE X (.Name x pos) (tC v) :=
 fun _ _ _ H _ I h => xk I hg hm ⟨v,H,I,r,h⟩ hd
theorem Jo {x:Str} {v:V} {u:Value} {pos:Pos} (hg:Gl X x) (hm:X.mg x = none) (hv:bootBuiltins x = some u) (r:RelV v u) (hn:x ≠ "__name__" := by decide) (hd:(x == ("__debug__" : Str)) = false := by decide):PE X (.Name x pos) (tC v) :=
 fun _ _ _ H _ I h => xg I hg hm hv ⟨v,H,I,r,h⟩ hn hd
variable {a b:Expr} {ta tb:TE} {pos:Pos}
theorem nobehind (b:Expr) {op:CmpOp} (h:op ≠ .In) (h2:op ≠ .NotIn):behindInMarks op b = false := by
 have e1:(op == CmpOp.In) = false := by cases op <;> first | rfl | exact absurd rfl h
 have e2:(op == CmpOp.NotIn) = false := by cases op <;> first | rfl | exact absurd rfl h2
 cases b <;> simp [behindInMarks,e1,e2]
noncomputable def tB (t:TE):TT := fun σ H Q => t σ H fun x H1 => ∃ c,x = .bl c /\ Q c H1
theorem yu {e:Expr} {t:TE} (h:PE X e t) (he:∀ whole,isTrue e X.env whole = (do let v <- whole; standAt e.pos; holding [v] (truthy v)) := by intro _; rfl):PT X e (tB t) := by
 intro pins s σ H Q I hw
 refine isTrue_plain (thn (h pins s σ H _ I hw) fun v s1 ⟨x,H1,I1,r1,q1⟩ => ?_) (he _)
 obtain ⟨d,rfl,q⟩ := q1
 cases r1
 exact wpAny_truthy_bool ⟨H1,I1,q⟩
variable {tA tB':TT} {rest:List Expr}
noncomputable def tAnd (t u:TT):TT := fun σ H Q => t σ H fun c H1 => if c = true then u σ H1 Q else Q false H1
noncomputable def tOr (t u:TT):TT := fun σ H Q => t σ H fun c H1 => if c = true then Q true H1 else u σ H1 Q
noncomputable def tNot (t:TT):TT := fun σ H Q => t σ H fun c H1 => Q (!c) H1
theorem xM (ha:PT X a tA):PW X (.BoolOp .And [a] pos) tA := by
 intro wh pins s σ H Q I h
 refine isTrue_and (thn (ha pins s σ H Q I h) fun c s1 e => ?_)
 cases c with
 | true => exact isTrue_and_nil e
 | false => exact e
theorem xh (ha:PT X a tA):PW X (.BoolOp .Or [a] pos) tA := by
 intro wh pins s σ H Q I h
 refine isTrue_or (thn (ha pins s σ H Q I h) fun c s1 e => ?_)
 cases c with
 | false => exact isTrue_or_nil e
 | true => exact e
theorem yV (ha:PT X a tA) (hb:PW X (.BoolOp .And (b :: rest) pos) tB'):PW X (.BoolOp .And (a :: b :: rest) pos) (tAnd tA tB') := by
 intro wh pins s σ H Q I h
 refine isTrue_and (thn (ha pins s σ H _ I h) fun c s1 ⟨H1,I1,q1⟩ => ?_)
 cases c with
 | true => exact hb wh pins s1 σ H1 Q I1 q1
 | false => exact ⟨H1,I1,q1⟩
theorem xy (ha:PT X a tA) (hb:PW X (.BoolOp .Or (b :: rest) pos) tB'):PW X (.BoolOp .Or (a :: b :: rest) pos) (tOr tA tB') := by
 intro wh pins s σ H Q I h
 refine isTrue_or (thn (ha pins s σ H _ I h) fun c s1 ⟨H1,I1,q1⟩ => ?_)
 cases c with
 | true => exact ⟨H1,I1,q1⟩
 | false => exact hb wh pins s1 σ H1 Q I1 q1
theorem yz (ha:PT X a tA):PT X (.UnaryOp .Not a pos) (tNot tA) := by
 intro pins s σ H Q I h
 exact isTrue_not (ha pins s σ H (fun c H1 => Q (!c) H1) I h)
noncomputable def Ji (ta tb:TE):TE := fun σ H Q => ta σ H fun x H1 => ∃ c,x = .bl c /\ if c = true then tb σ H1 Q else Q (.bl false) H1
noncomputable def zaX (ta:TE):TE := fun σ H Q => ta σ H fun x H1 => ∃ c,x = .bl c /\ Q (.bl (!c)) H1
theorem xv {op} {t:TE} (h:PE X a t):PE X (.BoolOp op [a] pos) t := fun pins s σ H Q I hw => BoolOp_one (h pins s σ H Q I hw)
theorem yO (ha:PE X a ta) (hb:PE X (.BoolOp .And (b :: rest) pos) tb):PE X (.BoolOp .And (a :: b :: rest) pos) (Ji ta tb) := by
 intro pins s σ H Q I h
 refine BoolOp_and (thn (ha pins s σ H _ I h) fun v s1 h9 => ?_)
 obtain ⟨x,H1,I1,r1,q1⟩ := h9
 obtain ⟨c,rfl,q1⟩ := q1
 cases r1
 refine wpAny_truthy_bool ?_
 cases c with
 | true => exact hb pins s1 σ H1 Q I1 q1
 | false => exact ⟨.bl false,H1,I1,rfl,q1⟩
theorem zai (ha:PE X a ta):PE X (.UnaryOp .Not a pos) (zaX ta) := by
 intro pins s σ H Q I h
 refine UnaryOp_ (thn (ha pins s σ H _ I h) fun v s1 h9 => ?_)
 obtain ⟨x,H1,I1,r1,q1⟩ := h9
 obtain ⟨c,rfl,q1⟩ := q1
 cases r1
 exact not_of (wpAny_truthy_bool ⟨.bl (!c),H1,I1,rfl,q1⟩)
end
end _L2
namespace _L2
open PySem PySem.Spec PyProof.Rows
noncomputable def SqL (K:PySem.W.Frag) (H:Hp) (a:Addr) (xs:List V):Prop :=
 Rd H a (.lst xs) \/
   ∃ (o:Obj) (its:Array Value) (n:Nat),K.lookup a = some o /\ o.cls = .type "list" /\ o.dict = none /\ o.data = .seq its n /\ its.size <= sizeLine /\ Vals xs its.toList
noncomputable def SqT (K:PySem.W.Frag) (H:Hp) (a:Addr) (xs:List V):Prop :=
 Rd H a (.tup xs) \/
   ∃ (o:Obj) (its:Array Value) (n:Nat),K.lookup a = some o /\ o.cls = .type "tuple" /\ o.data = .seq its n /\ its.size <= sizeLine /\ Vals xs its.toList
noncomputable def absV:Value -> Option V
 | .none => some .non
 | .bool b => some (.bl b)
 | .int i _ => some (.int i)
 | .str x _ => some (.str x)
 | .bytes b _ => some (.byt b)
 | .float b _ => some (.flt b)
 | .ref a => some (.ref a)
 | .type n => some (.ty n)
 | _ => none
theorem RelV.abs {x:V} {u:Value} (r:RelV x u):absV u = some x := by
 cases x with
 | non => cases r; rfl
 | bl _ => cases r; rfl
 | int _ => obtain ⟨t,rfl⟩ := r; rfl
 | str _ => obtain ⟨t,rfl⟩ := r; rfl
 | byt _ => obtain ⟨t,rfl⟩ := r; rfl
 | flt _ => obtain ⟨t,rfl⟩ := r; rfl
 | ref _ => cases r; rfl
 | ty _ => cases r; rfl
theorem RelV.inj {x y:V} {u:Value} (r:RelV x u) (q:RelV y u):x = y := Option.some.inj (r.abs.symm.trans q.abs)
theorem Vals.inj:∀ {xs ys:List V} {us:List Value},Vals xs us -> Vals ys us -> xs = ys
 | _,_,_,.nil,.nil => rfl
 | _,_,_,.cons r t,.cons r' t' => by rw [r.inj r',Vals.inj t t']
section
variable {X:Cx} {pins:List (Addr × Obj)} {σ:St} {H:Hp} {s:Shared} {a:Addr} {xs ys:List V}
theorem SqL.of {K:PySem.W.Frag} (h:H a = some (.lst xs)):SqL K H a xs := .inl (.inl h)
theorem SqT.of {K:PySem.W.Frag} (h:H a = some (.tup xs)):SqT K H a xs := .inl (.inl h)
theorem Inv.list (I:Inv X pins σ H s) (h:SqL X.K H a xs):∃ its:List Value,Vals xs its /\ PlainL s.heap a its.toArray /\ xs.length <= sizeLine := by
 rcases h with h | ⟨o,its,n,hk,hc,hd,hs,hz,r⟩
 · obtain ⟨z,its,n,r,e⟩ := h.ok I.hok
   exact ⟨its,r,⟨_,n,e,rfl,rfl,rfl⟩,z⟩
 · refine ⟨its.toList,r,⟨o,n,I.kIn a o hk,hc,hd,by simpa using hs⟩,?_⟩
   have e := r.length
   simp only [Array.length_toList] at e
   omega
theorem Inv.tuple (I:Inv X pins σ H s) (h:SqT X.K H a xs):∃ its:List Value,Vals xs its /\ IsTup s.heap a its.toArray /\ xs.length <= sizeLine := by
 rcases h with h | ⟨o,its,n,hk,hc,hs,hz,r⟩
 · obtain ⟨z,its,r,p⟩ := h.ok I.hok
   exact ⟨its,r,p,z⟩
 · refine ⟨its.toList,r,⟨o,I.kIn a o hk,hc,n,by simpa using hs⟩,?_⟩
   have e := r.length
   simp only [Array.length_toList] at e
   omega
theorem Inv.list_inj (I:Inv X pins σ H s) (h:SqL X.K H a xs) (h':SqL X.K H a ys):xs = ys := by
 obtain ⟨its,r,⟨o,n,e,_,_,d⟩,_⟩ := I.list h
 obtain ⟨its',r',⟨o',n',e',_,_,d'⟩,_⟩ := I.list h'
 rw [e] at e'; cases e'
 rw [d] at d'
 injection d' with d1 _
 have:its = its' := by simpa using congrArg Array.toList d1
 subst this
 exact r.inj r'
theorem Inv.tuple_inj (I:Inv X pins σ H s) (h:SqT X.K H a xs) (h':SqT X.K H a ys):xs = ys := by
 obtain ⟨its,r,⟨o,e,_,n,d⟩,_⟩ := I.tuple h
 obtain ⟨its',r',⟨o',e',_,n',d'⟩,_⟩ := I.tuple h'
 rw [e] at e'; cases e'
 rw [d] at d'
 injection d' with d1 _
 have:its = its' := by simpa using congrArg Array.toList d1
 subst this
 exact r.inj r'
end
abbrev Cx.wish (X:Cx) (E:Value -> Shared -> Prop):Cx := { X with xe := E }
abbrev Cx.nox (X:Cx):Cx := X.wish fun _ _ => False
theorem Cx.Ok.wish {X:Cx} (ok:X.Ok) (E:Value -> Shared -> Prop):(X.wish E).Ok :=
 ⟨ok.mod,ok.kind,ok.glob,ok.blt,ok.above,ok.inj,ok.has,ok.cab,ok.hd,ok.frames,ok.stk,ok.exf,ok.bs,ok.bsz,ok.noex,ok.exfs,ok.funs,ok.frf⟩
theorem Cx.Ok.unwish {X:Cx} {E:Value -> Shared -> Prop} (ok:(X.wish E).Ok):X.Ok :=
 ⟨ok.mod,ok.kind,ok.glob,ok.blt,ok.above,ok.inj,ok.has,ok.cab,ok.hd,ok.frames,ok.stk,ok.exf,ok.bs,ok.bsz,ok.noex,ok.exfs,ok.funs,ok.frf⟩
section
variable {X:Cx} {pins:List (Addr × Obj)} {σ:St} {H:Hp} {s:Shared} {E:Value -> Shared -> Prop}
theorem Inv.wish (I:Inv X pins σ H s) (E:Value -> Shared -> Prop):Inv (X.wish E) pins σ H s := ⟨I.ok.wish E,I.os,I.bare,I.base,I.loc,I.cell,I.free,I.freeC,I.pin,I.hok,I.len⟩
theorem Inv.unwish (I:Inv (X.wish E) pins σ H s):Inv X pins σ H s := ⟨I.ok.unwish,I.os,I.bare,I.base,I.loc,I.cell,I.free,I.freeC,I.pin,I.hok,I.len⟩
theorem SP.unwish {D:Ends} {f:Flow} {s':Shared} (h:SP (X.wish E) pins D f s'):SP X pins D f s' := by
 cases f with
 | next => obtain ⟨σ',H',I,q⟩ := h; exact ⟨σ',H',I.unwish,q⟩
 | brk => obtain ⟨σ',H',I,q⟩ := h; exact ⟨σ',H',I.unwish,q⟩
 | cont => obtain ⟨σ',H',I,q⟩ := h; exact ⟨σ',H',I.unwish,q⟩
 | ret u => obtain ⟨v,σ',H',I,r,q⟩ := h; exact ⟨v,σ',H',I.unwish,r,q⟩
theorem PSs.nox {st:List Stmt} {t:TS} (h:PSs X.nox st t):PSs X st t := fun pins s σ H D I hw =>
 wpAny_mono (h pins s σ H D (I.wish _) hw) (fun _ _ q => q.unwish) fun _ _ z => False.elim z
end
section
variable {X:Cx} {st:Stmt} {rest:List Stmt} {t u:TS} {e:Expr} {te:TE} {pos:Pos}
noncomputable def Jj:TS := fun D σ H => D.nx σ H
noncomputable def tSeq (t u:TS):TS := fun D σ H => t { D with nx := u D } σ H
theorem zO:PSs X [] Jj := fun _ _ σ H _ I h => wpAny_execs_nil ⟨σ,H,I,h⟩
theorem zg (h1:PS X st t) (h2:PSs X rest u):PSs X (st :: rest) (tSeq t u) := by
 intro pins s σ H D I h
 refine wpAny_execs_cons (thn (h1 pins s σ H { D with nx := u D } I h) fun f s1 q => ?_)
 cases f with
 | next =>
   obtain ⟨σ',H',I',q⟩ := q
   exact h2 pins s1 σ' H' D I' q
 | ret v => exact q
 | brk => exact q
 | cont => exact q
theorem zh (h1:PS X st t):PSs X [st] t := by
 intro pins s σ H D I h
 refine wpAny_execs_cons (thn (h1 pins s σ H D I h) fun f s1 q => ?_)
 cases f with
 | next => exact wpAny_execs_nil q
 | ret v => exact q
 | brk => exact q
 | cont => exact q
theorem Inv.quiet {pins:List (Addr × Obj)} {σ:St} {H:Hp} {s:Shared} (I:Inv X pins σ H s):interactive X.env = false := by simp [interactive,I.ok.kind]
noncomputable def zaY (te:TE):TS := fun D σ H => te σ H fun _ H1 => D.nx σ H1
theorem xl (he:PE X e te) (hs:swapsWith e none pos.line X.env = pure false := by rfl):PS X (.Expr e pos) (zaY te) := by
 intro pins s σ H D I h
 exact wpAny_Expr_any (thn (he pins s σ H _ I h) fun v s1 ⟨x,H1,I1,r1,q1⟩ => ⟨σ,H1,I1,q1⟩) I.quiet hs
noncomputable def tRet (te:TE):TS := fun D σ H => te σ H D.rt
theorem zw (he:PE X e te):PS X (.Return (some e) pos) (tRet te) := by
 intro pins s σ H D I h
 exact wpAny_Return_some (thn (he pins s σ H _ I h) fun v s1 ⟨x,H1,I1,r1,q1⟩ => ⟨x,σ,H1,I1,r1,q1⟩)
noncomputable def tIfS (c:TT) (t u:TS):TS := fun D σ H => c σ H fun b H1 => if b = true then t D σ H1 else u D σ H1
theorem zU {c:Expr} {a b:List Stmt} {tc:TT} (hc:PT X c tc) (ha:PSs X a t) (hb:PSs X b u):PS X (.If c a b pos) (tIfS tc t u) := by
 intro pins s σ H D I h
 refine wpAny_If (thn (hc pins s σ H _ I h) fun d s1 ⟨H1,I1,q1⟩ => ?_)
 cases d with
 | true => exact ha pins s1 σ H1 D I1 q1
 | false => exact hb pins s1 σ H1 D I1 q1
end
abbrev TG := V -> St -> Hp -> (St -> Hp -> Prop) -> Prop
abbrev TGs := List V -> St -> Hp -> (St -> Hp -> Prop) -> Prop
noncomputable def PG (X:Cx) (target:Expr) (t:TG):Prop :=
 ∀ (pins:List (Addr × Obj)) (s:Shared) (σ:St) (H:Hp) (v:V) (u:Value) (Q:St -> Hp -> Prop),Inv X pins σ H s -> RelV v u -> t v σ H Q ->
   wpAny (model X.prog X.w) X.A (assign target X.env u) (fun _ s' => ∃ σ' H',Inv X pins σ' H' s' /\ Q σ' H') X.xe s
noncomputable def PGs (X:Cx) (ts:List Expr) (t:TGs):Prop :=
 ∀ (pins:List (Addr × Obj)) (s:Shared) (σ:St) (H:Hp) (vs:List V) (us:List Value) (Q:St -> Hp -> Prop),Inv X pins σ H s -> Vals vs us -> t vs σ H Q ->
   wpAny (model X.prog X.w) X.A (assignInOrder ((assignEach ts X.env).map (·.2)) us) (fun _ s' => ∃ σ' H',Inv X pins σ' H' s' /\ Q σ' H') X.xe s
abbrev TSet := V -> V -> V -> Hp -> (Hp -> Prop) -> Prop
noncomputable def PSet (X:Cx) (t:TSet):Prop :=
 ∀ (pins:List (Addr × Obj)) (s:Shared) (σ:St) (H:Hp) (o i v:V) (ov iv u:Value) (Q:Hp -> Prop),Inv X pins σ H s -> RelV o ov -> RelV i iv -> RelV v u -> t o i v H Q ->
   wpAny (model X.prog X.w) X.A (setItem ov iv u) (fun _ s' => ∃ H',Inv X pins σ H' s' /\ Q H') X.xe s
section
variable {X:Cx} {pos:Pos}
noncomputable def zG (i:Nat):TG := fun v σ H Q => Q (σ.set i (some v)) H
theorem zp {i:Nat} {x:Str} (hN:X.N.Nodup) (hi:X.N[i]? = some x) (hx:Loc X.env.scope x) (hf:X.fn x = true \/ X.env.scope.names.lookup x = some .local := by first | exact .inl rfl | exact .inr rfl | assumption):PG X (.Name x pos) (zG i) := by
 intro pins s σ H v u Q I r h
 exact wpAny_assign_Name (jz I hN hi hx r (fun s' I' => ⟨_,H,I',h⟩) hf)
noncomputable def gNil:TGs := fun vs σ H Q => vs = [] /\ Q σ H
noncomputable def wb (t:TG) (u:TGs):TGs := fun vs σ H Q => ∃ v r,vs = v :: r /\ t v σ H fun σ' H' => u r σ' H' Q
theorem xm:PGs X [] gNil := by
 intro pins s σ H vs us Q I r h
 obtain ⟨e,h⟩ := h
 subst e
 cases r
 exact assignInOrder_nil ⟨σ,H,I,h⟩
theorem zE {e:Expr} {es:List Expr} {t:TG} {u:TGs} (h1:PG X e t) (h2:PGs X es u)
   (hs:(assignEach (e :: es) X.env).map (·.2) = assign e X.env :: (assignEach es X.env).map (·.2) := by rfl):PGs X (e :: es) (wb t u) := by
 intro pins s σ H vs us Q I r h
 obtain ⟨v,vr,e1,h⟩ := h
 subst e1
 cases r with
 | cons r rr =>
   rw [hs]
   refine assignInOrder_cons (thn (h1 pins s σ H _ _ _ I r h) fun _ s1 h9 => ?_)
   obtain ⟨σ1,H1,I1,q1⟩ := h9
   exact h2 pins s1 σ1 H1 _ _ Q I1 rr q1
noncomputable def gTup (K:PySem.W.Frag) (n:Nat) (t:TGs):TG := fun v σ H Q => ∃ a xs,v = .ref a /\ SqT K H a xs /\ xs.length = n /\ t xs σ H Q
theorem xI {es:List Expr} {k:Nat} {t:TGs} {n:Nat} (hc:X.calm = true) (h:PGs X es t)
   (hn:(assignEach es X.env).length = n := by rfl) (hst:(assignEach es X.env).findIdx? (·.1) = none := by rfl):PG X (.Tuple es k pos) (gTup X.K n t) := by
 intro pins s σ H v u Q I r hw
 obtain ⟨a,xs,e1,hq,hl,hw⟩ := hw
 subst e1
 cases r
 obtain ⟨its,rv,ht,hz⟩ := I.tuple hq
 refine assign_Tuple_tuple (I.ok.hd hc) ht (by simp [hn,<- hl,rv.length]) hst fun h' hx => ?_
 have I1:Inv X pins σ H { s with heap := h' } := I.kept (t' := s.toks) fun b o e => hx b o (Nat.ne_of_lt (Heap.lt_size e)) e
 exact h pins _ σ H xs _ Q I1 (by simpa using rv) hw
noncomputable def gSub (to ti:TE) (t:TSet):TG := fun v σ H Q => to σ H fun o H1 => ti σ H1 fun i H2 => t o i v H2 fun H3 => Q σ H3
theorem qy {o i:Expr} {to ti:TE} {t:TSet} (ho:PE X o to) (hi:PE X i ti) (hs:PSet X t)
   (ha:∀ v,assign (.Subscript o i pos) X.env v = (do
     let ov <- holding [v] (eval o X.env)
     let iv <- holding [v,ov] (eval i X.env)
     standAt pos
     holding [v,ov,iv] (setItem ov iv v)
     release [v,ov,iv] []) := by intro _; rfl):PG X (.Subscript o i pos) (gSub to ti t) := by
 intro pins s σ H v u Q I r h
 rw [ha]
 refine wpAny_bind (wpAny_holding (thn (ho pins s σ H _ I h) fun ov s1 h9 => ?_))
 obtain ⟨x,H1,I1,r1,q1⟩ := h9
 refine wpAny_bind (wpAny_holding (thn (hi pins s1 σ H1 _ I1 q1) fun iv s2 h9 => ?_))
 obtain ⟨y,H2,I2,r2,q2⟩ := h9
 refine wpAny_bind (wpAny_standAt (wpAny_bind (wpAny_holding (thn (hs pins s2 σ H2 x y v ov iv u _ I2 r1 r2 r q2) fun _ s3 h9 => ?_))))
 obtain ⟨H3,I3,q3⟩ := h9
 exact wpAny_release ⟨σ,H3,I3,q3⟩
noncomputable def tAsg (te:TE) (g:TG):TS := fun D σ H => te σ H fun x H1 => g x σ H1 D.nx
theorem xi {tg e:Expr} {te:TE} {g:TG} (he:PE X e te) (hg:PG X tg g) (hs:swapsWithSole [tg] e pos.line X.env = pure false := by rfl) (hw:swappedStores [tg] e X.env = pure none := by rfl)
   (h1:(assignEach [tg] X.env).map (·.2) = [assign tg X.env] := by rfl):PS X (.Assign [tg] e pos) (tAsg te g) := by
 intro pins s σ H D I h
 refine wpAny_Assign_stores (thn (he pins s σ H _ I h) fun v s1 ⟨x,H1,I1,r1,q1⟩ => ?_) hs hw
 rw [h1]
 exact thn (hg pins s1 σ H1 x v _ I1 r1 q1) fun _ s2 q => q
theorem zt {i:Nat} {x:Str} {e:Expr} {te:TE} {pos':Pos} (hN:X.N.Nodup) (hi:X.N[i]? = some x) (hx:Loc X.env.scope x) (he:PE X e te) (hs:swapsWith e (some (.Name x pos')) pos.line X.env = pure false := by rfl) (hf:X.fn x = true \/ X.env.scope.names.lookup x = some .local := by first | exact .inl rfl | exact .inr rfl | assumption) :
   PS X (.Assign [.Name x pos'] e pos) (tAsg te (zG i)) := by
 intro pins s σ H D I h
 refine wpAny_Assign_Name (thn (he pins s σ H _ I h) fun v s1 ⟨y,H1,I1,r1,q1⟩ => ?_) hs
 exact jz I1 hN hi hx r1 (fun s2 I2 => ⟨_,H1,I2,q1⟩) hf
end
structure It where
 go:Nat -> Hp -> Prop
 yld:Nat -> Hp -> V -> Hp -> Prop
 stop:Nat -> Hp -> Prop
noncomputable def FpOk (X:Cx) (pins:List (Addr × Obj)) (H:Hp) (b:Addr):Prop :=
 H b = none /\ b ≠ X.env.locals /\ b ∉ X.fs /\ (b ∈ X.ex \/ X.s₀.heap.objs.size <= b) /\ (∀ x c,X.env.cells.lookup x = some c -> c ≠ b) /\ ∀ p ∈ X.pn ++ pins,p.1 ≠ b
theorem Inv.fpOk {X:Cx} {pins:List (Addr × Obj)} {σ:St} {H H':Hp} {s:Shared} {b:Addr} (I:Inv X pins σ H s) (hb:s.heap.objs.size <= b) (hn:H' b = none):FpOk X pins H' b := by
 refine ⟨hn,Nat.ne_of_gt (Nat.lt_of_lt_of_le I.lt hb),I.nofs hb,.inr (Nat.le_trans I.sz hb),fun x c e z => ?_,fun p hp z => ?_⟩
 · obtain ⟨v,q⟩ := I.cell x c e
   exact absurd (Nat.lt_of_lt_of_le q.lt (by rw [z]; exact hb)) (Nat.lt_irrefl _)
 · exact absurd (Nat.lt_of_lt_of_le (Heap.lt_size (I.pin p hp).1) (by rw [z]; exact hb)) (Nat.lt_irrefl _)
structure Turn (P:Program) (w:World) (K:PySem.W.Frag) (tg:Expr) (J:It) (fp:List Addr) (it:Addr) (tn:Nat -> Heap -> Prop):Prop where
 mem:it ∈ fp
 obj:∀ i h,tn i h -> ∀ b ∈ fp,∃ o,h.get? b = some o /\ ∀ v,o.data ≠ .cell v
 keep:∀ i h h',tn i h -> (∀ b ∈ fp,∀ o,h.get? b = some o -> h'.get? b = some o) -> tn i h'
 item:∀ (X:Cx),X.prog = P -> X.w = w -> X.K = K -> X.calm = true -> ∀ (i:Nat) (pins:List (Addr × Obj)) (s:Shared) (σ:St) (H:Hp) (E:Value -> Shared -> Prop),Inv X pins σ H s -> (∀ b ∈ fp,FpOk X pins H b) -> tn i s.heap -> J.go i H ->
   wpAny (model P w) X.A (pyNext (.ref it)) (fun r s1 => ∃ u,r = some u /\
     wpAny (model P w) X.A (letOwnedTupleGo tg (.ref it) u) (fun _ s2 => ∃ x H',Inv X pins σ H' s2 /\ RelV x u /\ J.yld i H x H' /\ tn (i + 1) s2.heap /\ ∀ b ∈ fp,H' b = none) E s1) E s
 done:∀ (X:Cx),X.prog = P -> X.w = w -> X.K = K -> X.calm = true -> ∀ (i:Nat) (pins:List (Addr × Obj)) (s:Shared) (σ:St) (H:Hp) (E:Value -> Shared -> Prop),Inv X pins σ H s -> (∀ b ∈ fp,FpOk X pins H b) -> tn i s.heap -> J.stop i H ->
   wpAny (model P w) X.A (pyNext (.ref it)) (fun r s1 => r = none /\ Inv X pins σ H s1) E s
 self:∀ (A:Around) (i:Nat) (s:Shared) (Q:Value -> Shared -> Prop) (E:Value -> Shared -> Prop),tn i s.heap -> Q (.ref it) s -> wpAny (model P w) A (pyIter (.ref it)) Q E s
abbrev TI := St -> Hp -> (It -> Hp -> Prop) -> Prop
noncomputable def PIE (X:Cx) (pins:List (Addr × Obj)) (σ:St) (tg:Expr) (R:It -> Hp -> Prop) (itv:Value) (s2:Shared):Prop :=
 ∃ (it:Addr) (fp:List Addr) (tn:Nat -> Heap -> Prop) (J:It) (H':Hp),itv = .ref it /\ Inv X pins σ H' s2 /\ Turn X.prog X.w X.K tg J fp it tn /\ tn 0 s2.heap /\ (∀ b ∈ fp,FpOk X pins H' b) /\ R J H'
noncomputable def PI (X:Cx) (tg iter:Expr) (wi:TI):Prop :=
 ∀ (pins:List (Addr × Obj)) (s:Shared) (σ:St) (H:Hp) (R:It -> Hp -> Prop),Inv X pins σ H s -> wi σ H R ->
   wpAny (model X.prog X.w) X.A (eval iter X.env) (fun v s1 => wpAny (model X.prog X.w) X.A (pyIter v) (PIE X pins σ tg R) X.xe s1) X.xe s
theorem XI {M:Model} {A:Around} {E:Value -> Shared -> Prop} {s:Shared} {tg:Expr} {it:Addr} {u:Value} {o:Obj} {n:String} {vs:Array Value} {Q:Unit -> Shared -> Prop} (ho:s.heap.get? it = some o) (hc:o.cls = .type n) (hd:o.data = .fields vs)
   (hn:["enumerate","zip","dict_itemiterator","dict_reverseitemiterator","odict_iterator","itertools.zip_longest","itertools.pairwise"].contains n = false) (hQ:Q () s):wpAny M A (letOwnedTupleGo tg (.ref it) u) Q E s := by
 unfold letOwnedTupleGo
 cases tg <;> first
   | exact wpAny_pure hQ
   | (cases u <;> first
       | exact wpAny_pure hQ
       | (refine wpAny_bind (wpAny_load ho ?_)
          rw [hc,hd]
          show wpAny M A (if (["enumerate","zip","dict_itemiterator","dict_reverseitemiterator","odict_iterator","itertools.zip_longest","itertools.pairwise"].contains n && vs[0]? == some (rawInt _)) = true then _ else _) Q E s
          rw [if_neg (by intro h; rw [hn,Bool.false_and] at h; cases h)]
          exact wpAny_pure hQ))
noncomputable def Itl (K:PySem.W.Frag) (a:Addr):It :=
 ⟨fun i H => ∃ xs x,SqL K H a xs /\ xs[i]? = some x,fun i H x H' => H' = H /\ ∀ xs,SqL K H a xs -> xs[i]? = some x,fun i H => ∃ xs,SqL K H a xs /\ xs.length <= i⟩
noncomputable def Itt (K:PySem.W.Frag) (a:Addr):It :=
 ⟨fun i H => ∃ xs x,SqT K H a xs /\ xs[i]? = some x,fun i H x H' => H' = H /\ ∀ xs,SqT K H a xs -> xs[i]? = some x,fun i H => ∃ xs,SqT K H a xs /\ xs.length <= i⟩
noncomputable def Itr (lo:Int) (n:Nat):It := ⟨fun i _ => i < n,fun i H x H' => H' = H /\ x = .int (lo + i),fun i _ => n <= i⟩
theorem Wr {P:Program} {w:World} {K:PySem.W.Frag} {tg:Expr} (a it:Addr):Turn P w K tg (Itl K a) [it] it (fun i h => h.IsListIter it a i) where
 mem := by simp
 obj := fun i h st b hb => by
   have e:b = it := by simpa using hb
   subst e
   obtain ⟨o,e,c,d⟩ := st
   exact ⟨o,e,fun v z => by rw [d] at z; cases z⟩
 keep := fun i h h' st k => st.at fun o e => k it (by simp) o e
 item := by
   intro X hP hw hK hc i pins s σ H E I hf st hg
   subst hP hw hK
   obtain ⟨xs,x,hq,hx⟩ := hg
   obtain ⟨its,rv,p,hz⟩ := I.list hq
   obtain ⟨u,hu,ru⟩ := rv.get hx
   obtain ⟨f0,f1,f2,f3,f4,f5⟩ := hf it (by simp)
   refine wpAny_pyNext_list_item st p.isList (x := u) (by simpa using hu) fun h' st' sb => ?_
   have I1:Inv X pins σ H { s with heap := h' } := I.turned (t' := s.toks) (fun b o hb e => (sb.2 b hb).trans e) f0 f1 f3 f4 f5
   obtain ⟨o,e,c,d⟩ := id st'
   exact ⟨u,rfl,XI (s := { s with heap := h' }) e c d (by decide) ⟨x,H,I1,ru,⟨rfl,fun ys hy => by rw [I.list_inj hy hq]; exact hx⟩,st',fun b hb => (hf b hb).1⟩⟩
 done := by
   intro X hP hw hK hc i pins s σ H E I hf st hg
   subst hP hw hK
   obtain ⟨xs,hq,hx⟩ := hg
   obtain ⟨its,rv,p,hz⟩ := I.list hq
   obtain ⟨f0,f1,f2,f3,f4,f5⟩ := hf it (by simp)
   have hl := rv.length
   exact wpAny_pyNext_list_end (I.ok.hd hc) st p.isList (by simp; omega) fun h' eb => ⟨rfl,I.turned (t' := s.toks) (fun b o hb e => eb b o hb e) f0 f1 f3 f4 f5⟩
 self := fun _ _ _ _ _ st h => wpAny_pyIter_listiter st h
theorem XJ {P:Program} {w:World} {K:PySem.W.Frag} {tg:Expr} (a it:Addr):Turn P w K tg (Itt K a) [it] it (fun i h => h.IsTupleIter it a i) where
 mem := by simp
 obj := fun i h st b hb => by
   have e:b = it := by simpa using hb
   subst e
   obtain ⟨o,e,c,d⟩ := st
   exact ⟨o,e,fun v z => by rw [d] at z; cases z⟩
 keep := fun i h h' st k => st.at fun o e => k it (by simp) o e
 item := by
   intro X hP hw hK hc i pins s σ H E I hf st hg
   subst hP hw hK
   obtain ⟨xs,x,hq,hx⟩ := hg
   obtain ⟨its,rv,p,hz⟩ := I.tuple hq
   obtain ⟨u,hu,ru⟩ := rv.get hx
   obtain ⟨f0,f1,f2,f3,f4,f5⟩ := hf it (by simp)
   refine wpAny_pyNext_tuple_item st (show s.heap.IsTuple a its.toArray from p) (x := u) (by simpa using hu) fun h' st' sb => ?_
   have I1:Inv X pins σ H { s with heap := h' } := I.turned (t' := s.toks) (fun b o hb e => (sb.2 b hb).trans e) f0 f1 f3 f4 f5
   obtain ⟨o,e,c,d⟩ := id st'
   exact ⟨u,rfl,XI (s := { s with heap := h' }) e c d (by decide) ⟨x,H,I1,ru,⟨rfl,fun ys hy => by rw [I.tuple_inj hy hq]; exact hx⟩,st',fun b hb => (hf b hb).1⟩⟩
 done := by
   intro X hP hw hK hc i pins s σ H E I hf st hg
   subst hP hw hK
   obtain ⟨xs,hq,hx⟩ := hg
   obtain ⟨its,rv,p,hz⟩ := I.tuple hq
   obtain ⟨f0,f1,f2,f3,f4,f5⟩ := hf it (by simp)
   have hl := rv.length
   exact wpAny_pyNext_tuple_end (I.ok.hd hc) st (show s.heap.IsTuple a its.toArray from p) (by simp; omega) fun h' eb => ⟨rfl,I.turned (t' := s.toks) (fun b o hb e => eb b o hb e) f0 f1 f3 f4 f5⟩
 self := fun _ _ _ _ _ st h => wpAny_pyIter_tupleiter st h
theorem XL {P:Program} {w:World} {K:PySem.W.Frag} {tg:Expr} (it:Addr) (lo:Int) (n:Nat):Turn P w K tg (Itr lo n) [it] it (fun i h => IsRangeIter h it (lo + (i:Nat) * 1) ((n:Int) - (i:Nat)) 1) where
 mem := by simp
 obj := fun i h st b hb => by
   have e:b = it := by simpa using hb
   subst e
   exact ⟨_,st,fun v z => by
     have z':Data.fields _ = Data.cell v := z
     cases z'⟩
 keep := fun i h h' st k => k it (by simp) _ st
 item := by
   intro X hP hw hK hc i pins s σ H E I hf st hg
   subst hP hw hK
   obtain ⟨f0,f1,f2,f3,f4,f5⟩ := hf it (by simp)
   have W := Walks.range (prog := X.prog) (w := X.w) (I.ok.hd hc) it lo 1 n
   refine W.item i s _ _ hg st fun v h' tk hv st' kk => ?_
   obtain ⟨t,rfl⟩ := hv
   have I1:Inv X pins σ H { s with heap := h',toks := tk } := I.turned (fun b o hb e => kk b o (by simpa using hb) e) f0 f1 f3 f4 f5
   refine ⟨_,rfl,XI (s := { s with heap := h',toks := tk }) (n := "range_iterator") st' rfl rfl (by decide) ⟨.int (lo + i),H,I1,⟨t,?_⟩,⟨rfl,rfl⟩,st',fun b hb => (hf b hb).1⟩⟩
   rw [Int.mul_one]
 done := by
   intro X hP hw hK hc i pins s σ H E I hf st hg
   subst hP hw hK
   obtain ⟨f0,f1,f2,f3,f4,f5⟩ := hf it (by simp)
   exact wpAny_pyNext_range_end (I.ok.hd hc) st (by have:n <= i := hg; omega) fun h' eb => ⟨rfl,I.turned (t' := s.toks) (fun b o hb e => eb b o hb e) f0 f1 f3 f4 f5⟩
 self := fun _ _ _ _ _ st h => wpAny_pyIter_rangeiter st h
end _L2
namespace _L2
open PySem PySem.Spec PyProof.Rows
section
variable {X:Cx} {tg:Expr}
noncomputable def XM (K:PySem.W.Frag) (tl:TE):TI := fun σ H R => tl σ H fun x H1 => ∃ a,x = .ref a /\ (∃ xs,SqL K H1 a xs) /\ R (Itl K a) H1
noncomputable def iTup (K:PySem.W.Frag) (tl:TE):TI := fun σ H R => tl σ H fun x H1 => ∃ a,x = .ref a /\ (∃ xs,SqT K H1 a xs) /\ R (Itt K a) H1
theorem yo {l:Expr} {tl:TE} (hl:PE X l tl):PI X tg l (XM X.K tl) := by
 intro pins s σ H R I h
 refine thn (hl pins s σ H _ I h) fun v s1 h9 => ?_
 obtain ⟨x,H1,I1,r1,q1⟩ := h9
 obtain ⟨a,e,⟨xs,hq⟩,q⟩ := q1
 subst e
 cases r1
 obtain ⟨its,rv,p,hz⟩ := I1.list hq
 refine wpAny_pyIter_list p.isList ?_
 refine ⟨s1.heap.objs.size,[s1.heap.objs.size],_,_,H1,rfl,I1.kept (t' := s1.toks) fun b o e => Heap.get?_push_of_some _ e,Wr a _,⟨_,Heap.get?_push_size _ rfl,rfl,rfl⟩,fun b hb => ?_,q⟩
 have e:b = s1.heap.objs.size := by simpa using hb
 subst e
 exact I1.fpOk (Nat.le_refl _) (I1.hok.fresh (Nat.le_refl _))
theorem zaj {l:Expr} {tl:TE} (hl:PE X l tl):PI X tg l (iTup X.K tl) := by
 intro pins s σ H R I h
 refine thn (hl pins s σ H _ I h) fun v s1 h9 => ?_
 obtain ⟨x,H1,I1,r1,q1⟩ := h9
 obtain ⟨a,e,⟨xs,hq⟩,q⟩ := q1
 subst e
 cases r1
 obtain ⟨its,rv,p,hz⟩ := I1.tuple hq
 refine wpAny_pyIter_tuple (show s1.heap.IsTuple a its.toArray from p) ?_
 refine ⟨s1.heap.objs.size,[s1.heap.objs.size],_,_,H1,rfl,I1.kept (t' := s1.toks) fun b o e => Heap.get?_push_of_some _ e,XJ a _,⟨_,Heap.get?_push_size _ rfl,rfl,rfl⟩,fun b hb => ?_,q⟩
 have e:b = s1.heap.objs.size := by simpa using hb
 subst e
 exact I1.fpOk (Nat.le_refl _) (I1.hok.fresh (Nat.le_refl _))
theorem Yc {pins:List (Addr × Obj)} {σ:St} {H:Hp} {s:Shared} {R:It -> Hp -> Prop} {E:Value -> Shared -> Prop} {lo hi:Int} {t u v:Tok} {tk:Nat} (I:Inv X pins σ H s) (h1:-(2 ^ 62) <= lo) (h2:lo < 2 ^ 62) (h3:-(2 ^ 62) <= hi) (h4:hi < 2 ^ 62)
   (q:R (Itr lo (hi - lo).toNat) H):wpAny (model X.prog X.w) X.A (pyIter (.ref s.heap.objs.size)) (PIE X pins σ tg R) E { s with heap := s.heap.push { cls := .type "range",data := .fields #[.int lo t,.int hi u,.int 1 v] },toks := tk } := by
 refine wpAny_pyIter_range (IsRange.new ..) (small_one h1 h2 h3 h4) ?_
 have I1:Inv X pins σ H { s with heap := s.heap.push { cls := .type "range",data := .fields #[.int lo t,.int hi u,.int 1 v] },toks := tk } := I.kept fun b o e => Heap.get?_push_of_some _ e
 refine ⟨(s.heap.push { cls := .type "range",data := .fields #[.int lo t,.int hi u,.int 1 v] }).objs.size,[(s.heap.push { cls := .type "range",data := .fields #[.int lo t,.int hi u,.int 1 v] }).objs.size],_,_,H,rfl,
   I1.kept (t' := tk) fun b o e => Heap.get?_push_of_some _ e,XL _ lo (hi - lo).toNat,?_,fun b hb => ?_,q⟩
 · have e1:lo + ((0:Nat):Int) * 1 = lo := by simp
   have e2:(((hi - lo).toNat:Nat):Int) - ((0:Nat):Int) = Builtin.Range.rangeSize lo hi 1 := by rw [rangeSize_one]; split <;> omega
   show IsRangeIter _ _ (lo + ((0:Nat):Int) * 1) ((((hi - lo).toNat:Nat):Int) - ((0:Nat):Int)) 1
   rw [e1,e2]
   exact Heap.get?_push_size _ rfl
 · have e:b = (s.heap.push { cls := .type "range",data := .fields #[.int lo t,.int hi u,.int 1 v] }).objs.size := by simpa using hb
   subst e
   exact I1.fpOk (Nat.le_refl _) (I1.hok.fresh (Nat.le_refl _))
noncomputable def zaZ (ta:TA):TI := fun σ H R => ta σ H fun vs H1 => ∃ j:Int,vs = [.int j] /\ -(2 ^ 62) <= j /\ j < 2 ^ 62 /\ R (Itr 0 j.toNat) H1
noncomputable def za0 (ta:TA):TI := fun σ H R => ta σ H fun vs H1 => ∃ i j:Int,vs = [.int i,.int j] /\ (-(2 ^ 62) <= i /\ i < 2 ^ 62 /\ -(2 ^ 62) <= j /\ j < 2 ^ 62) /\ R (Itr i (j - i).toNat) H1
theorem yX {a:Expr} {ta:TA} {p pos:Pos} (hg:Gl X "range") (hm:X.mg "range" = none) (ha:PA X [a] ta) (hs:starEach [a] X.env = [(false,eval a X.env)] := by rfl):PI X tg (.Call (.Name "range" p) [a] [] pos) (zaZ ta) := by
 intro pins s σ H R I h
 refine Call_ (xg I hg hm boot_range (PyProof.Rows.callWith_type1 (thn (ha pos pins s σ H _ I h) fun us s1 ⟨vs,H1,I1,r1,q1⟩ => ?_) hs rfl))
 obtain ⟨j,e,q1,q2,q⟩ := q1
 subst e
 cases r1 with
 | cons r rr =>
   cases rr
   obtain ⟨t,rfl⟩ := r
   exact call_range_1 (Yc I1 (by omega) (by omega) q1 q2 (by simpa using q))
theorem qz {a b:Expr} {ta:TA} {p pos:Pos} (hg:Gl X "range") (hm:X.mg "range" = none) (ha:PA X [a,b] ta) (hs:starEach [a,b] X.env = [(false,eval a X.env),(false,eval b X.env)] := by rfl) (hs2:starEach [b] X.env = [(false,eval b X.env)] := by rfl) :
   PI X tg (.Call (.Name "range" p) [a,b] [] pos) (za0 ta) := by
 intro pins s σ H R I h
 refine Call_ (xg I hg hm boot_range (PyProof.Rows.callWith_type1 (thn (ha pos pins s σ H _ I h) fun us s1 ⟨vs,H1,I1,r1,q1⟩ => ?_) (by rw [hs,hs2]) (by rw [hs2]; rfl)))
 obtain ⟨i,j,e,⟨q1,q2,q3,q4⟩,q⟩ := q1
 subst e
 cases r1 with
 | cons r rr =>
   cases rr with
   | cons r' rr =>
     cases rr
     obtain ⟨t,rfl⟩ := r
     obtain ⟨t',rfl⟩ := r'
     exact call_range_2 (Yc I1 q1 q2 q3 q4 q)
noncomputable def tFor (wi:TI) (g:TG) (tb:TS):TS := fun D σ H => wi σ H fun J H1 => ∃ W:Nat -> Nat -> St -> Hp -> Prop,(∃ m,W 0 m σ H1) /\ ∀ i m σ H,W i m σ H ->
 (J.stop i H /\ D.nx σ H) \/ (J.go i H /\ ∃ N:St -> Hp -> Prop,(∀ σ' H',N σ' H' -> ∃ m',m' < m /\ W (i + 1) m' σ' H') /\ ∀ x H',J.yld i H x H' -> g x σ H' fun σ2 H2 => tb { D with nx := N,ct := N,bk := D.nx } σ2 H2)
noncomputable def xU (fp:List Addr) (h:Heap):List (Addr × Obj) := fp.filterMap fun b => (h.get? b).map fun o => (b,o)
theorem wc {fp:List Addr} {h:Heap} {b:Addr} {o:Obj} (hb:b ∈ fp) (e:h.get? b = some o):(b,o) ∈ xU fp h := List.mem_filterMap.mpr ⟨b,hb,by rw [e]; rfl⟩
theorem Zx {fp:List Addr} {h:Heap} {p:Addr × Obj} (hp:p ∈ xU fp h):p.1 ∈ fp /\ h.get? p.1 = some p.2 := by
 obtain ⟨b,hb,e⟩ := List.mem_filterMap.mp hp
 cases q:h.get? b with
 | none => rw [q] at e; cases e
 | some o =>
   rw [q] at e
   have e':(b,o) = p := Option.some.inj e
   subst e'
   exact ⟨hb,q⟩
theorem Inv.pinned {pins:List (Addr × Obj)} {σ:St} {H:Hp} {s:Shared} {fp:List Addr} (I:Inv X pins σ H s) (hf:∀ b ∈ fp,FpOk X pins H b) (ho:∀ b ∈ fp,∃ o,s.heap.get? b = some o /\ ∀ v,o.data ≠ .cell v):Inv X (pins ++ xU fp s.heap) σ H s :=
 I.pins_of fun p hp => (List.mem_append.mp hp).elim (fun z => I.pin p (List.mem_append_right _ z)) fun z => by
   obtain ⟨hb,e⟩ := Zx z
   obtain ⟨f0,f1,f2,_⟩ := hf p.1 hb
   obtain ⟨o,e',d⟩ := ho p.1 hb
   rw [e] at e'; cases e'
   exact ⟨e,f0,f1,f2,d⟩
theorem Inv.unpinned {pins pl:List (Addr × Obj)} {σ:St} {H:Hp} {s:Shared} (I:Inv X (pins ++ pl) σ H s):Inv X pins σ H s := I.pins_of fun p hp => I.pin p (List.mem_append_right _ (List.mem_append_left _ hp))
theorem yF {iter:Expr} {body:List Stmt} {wi:TI} {g:TG} {tb:TS} {pos:Pos} (hp:PassesOwn (model X.prog X.w) X.A X.env X.xe) (hc:X.calm = true) (hi:PI X tg iter wi) (hg:PG X tg g) (hb:PSs X body tb)
   (hs:∀ x,foldedSetIterable iter X.env x = pure x := by intro _; rfl):PS X (.For tg iter body [] pos) (tFor wi g tb) := by
 intro pins s σ H D I h
 refine wpAny_For (thn (hi pins s σ H _ I h) fun v s1 h1 => thn h1 fun itv s2 h2 => ?_) hs
 obtain ⟨it,fp,tn,J,H2,e,I2,T,st2,f2,W,⟨m0,w0⟩,turn⟩ := h2
 subst e
 -- what stays true of the iterator's objects through the loop
 have stat:∀ {H':Hp},(∀ b ∈ fp,H' b = none) -> ∀ b ∈ fp,FpOk X pins H' b := fun hn b hb => ⟨hn b hb,(f2 b hb).2⟩
 refine codeAny_forLoop_any (fun n s' => ∃ i σ' H',Inv X pins σ' H' s' /\ tn i s'.heap /\ (∀ b ∈ fp,H' b = none) /\ W i n σ' H') ?_ m0 ⟨0,σ,H2,I2,st2,fun b hb => (f2 b hb).1,w0⟩
 rintro n s3 ⟨i,σ3,H3,I3,st3,fr3,w3⟩
 rcases turn i n σ3 H3 w3 with ⟨stop,qn⟩ | ⟨go,N,hN,step⟩
 · refine wpAny_passesOwn hp (thn (T.done X rfl rfl rfl hc i pins s3 σ3 H3 X.xe I3 (stat fr3) st3 stop) fun r s4 h9 => ?_)
   obtain ⟨hr,I4⟩ := h9
   subst hr
   exact wpAny_execs_nil ⟨σ3,H3,I4,qn⟩
 · refine wpAny_passesOwn hp (thn (T.item X rfl rfl rfl hc i pins s3 σ3 H3 X.xe I3 (stat fr3) st3 go) fun r s4 h9 => ?_)
   obtain ⟨u,hr,h4⟩ := h9
   subst hr
   refine wpAny_passesOwn hp (thn h4 fun _ s5 h9 => ?_)
   obtain ⟨x,H5,I5,r5,y5,st5,fr5⟩ := h9
   have I5' := I5.pinned (stat fr5) (T.obj _ _ st5)
   refine wpAny_passesOwn hp (thn (hg _ s5 σ3 H5 x u _ I5' r5 (step x H5 y5)) fun _ s6 h9 => ?_)
   obtain ⟨σ6,H6,I6,q6⟩ := h9
   refine wpAny_passesOwn hp (thn (hb _ s6 σ6 H6 _ I6 q6) fun f s7 q7 => ?_)
   have again:∀ {σ7:St} {H7:Hp},Inv X (pins ++ xU fp s5.heap) σ7 H7 s7 -> N σ7 H7 -> ∃ m,m < n /\ ∃ i σ' H',Inv X pins σ' H' s7 /\ tn i s7.heap /\ (∀ b ∈ fp,H' b = none) /\ W i m σ' H' := fun {σ7 H7} I7 n7 => by
     obtain ⟨m',hm,w7⟩ := hN σ7 H7 n7
     refine ⟨m',hm,i + 1,σ7,H7,I7.unpinned,T.keep _ _ _ st5 fun b hb o e => (I7.pin (b,o) (List.mem_append_right _ (List.mem_append_right _ (wc hb e)))).1,fun b hb => ?_,w7⟩
     obtain ⟨o,e,d⟩ := T.obj _ _ st5 b hb
     exact (I7.pin (b,o) (List.mem_append_right _ (List.mem_append_right _ (wc hb e)))).2.1
   cases f with
   | next => obtain ⟨σ7,H7,I7,n7⟩ := q7; exact again I7 n7
   | cont => obtain ⟨σ7,H7,I7,n7⟩ := q7; exact again I7 n7
   | brk => obtain ⟨σ7,H7,I7,q7⟩ := q7; exact ⟨σ7,H7,I7.unpinned,q7⟩
   | ret v => obtain ⟨x7,σ7,H7,I7,r7,q7⟩ := q7; exact ⟨x7,σ7,H7,I7.unpinned,r7,q7⟩
end
theorem wx {K:PySem.W.Frag} {a:Addr} {xs:List V} {g:TG} {tb:TS} {D:Ends} {σ:St} {H:Hp} (Pv:Nat -> St -> Hp -> Prop) (h0:Pv 0 σ H) (hl:∀ i σ H,i <= xs.length -> Pv i σ H -> SqL K H a xs)
   (hs:∀ i x σ H,xs[i]? = some x -> Pv i σ H -> g x σ H fun σ2 H2 => tb { D with nx := Pv (i + 1),ct := Pv (i + 1),bk := D.nx } σ2 H2) (hd:∀ σ H,Pv xs.length σ H -> D.nx σ H) :
   ∃ W:Nat -> Nat -> St -> Hp -> Prop,(∃ m,W 0 m σ H) /\ ∀ i m σ H,W i m σ H ->
     ((Itl K a).stop i H /\ D.nx σ H) \/ ((Itl K a).go i H /\ ∃ N:St -> Hp -> Prop,(∀ σ' H',N σ' H' -> ∃ m',m' < m /\ W (i + 1) m' σ' H') /\ ∀ x H',(Itl K a).yld i H x H' -> g x σ H' fun σ2 H2 => tb { D with nx := N,ct := N,bk := D.nx } σ2 H2) := by
 refine ⟨fun i m σ H => m = xs.length - i /\ i <= xs.length /\ Pv i σ H,⟨xs.length,by simp,Nat.zero_le _,h0⟩,?_⟩
 rintro i m σ H ⟨rfl,hi,p⟩
 have q := hl i σ H hi p
 by_cases hlt:i < xs.length
 · refine .inr ⟨⟨xs,xs[i],q,by simp [hlt]⟩,Pv (i + 1),fun σ' H' p' => ⟨xs.length - (i + 1),by omega,rfl,hlt,p'⟩,fun x H' y => ?_⟩
   obtain ⟨e,y⟩ := y
   subst e
   exact hs i x σ _ (y xs q) p
 · have e:i = xs.length := by omega
   subst e
   exact .inl ⟨⟨xs,q,Nat.le_refl _⟩,hd σ H p⟩
theorem yP {lo:Int} {n:Nat} {g:TG} {tb:TS} {D:Ends} {σ:St} {H:Hp} (Pv:Nat -> St -> Hp -> Prop) (h0:Pv 0 σ H)
   (hs:∀ i σ H,i < n -> Pv i σ H -> g (.int (lo + i)) σ H fun σ2 H2 => tb { D with nx := Pv (i + 1),ct := Pv (i + 1),bk := D.nx } σ2 H2) (hd:∀ σ H,Pv n σ H -> D.nx σ H) :
   ∃ W:Nat -> Nat -> St -> Hp -> Prop,(∃ m,W 0 m σ H) /\ ∀ i m σ H,W i m σ H ->
     ((Itr lo n).stop i H /\ D.nx σ H) \/ ((Itr lo n).go i H /\ ∃ N:St -> Hp -> Prop,(∀ σ' H',N σ' H' -> ∃ m',m' < m /\ W (i + 1) m' σ' H') /\ ∀ x H',(Itr lo n).yld i H x H' -> g x σ H' fun σ2 H2 => tb { D with nx := N,ct := N,bk := D.nx } σ2 H2) := by
 refine ⟨fun i m σ H => m = n - i /\ i <= n /\ Pv i σ H,⟨n,by simp,Nat.zero_le _,h0⟩,?_⟩
 rintro i m σ H ⟨rfl,hi,p⟩
 by_cases hlt:i < n
 · refine .inr ⟨hlt,Pv (i + 1),fun σ' H' p' => ⟨n - (i + 1),by omega,rfl,hlt,p'⟩,fun x H' y => ?_⟩
   obtain ⟨e,y⟩ := y
   subst e y
   exact hs i σ _ hlt p
 · have e:i = n := by omega
   subst e
   exact .inl ⟨Nat.le_refl _,hd σ H p⟩
end _L2
namespace _L2
open PySem PySem.Spec PyProof.Rows
abbrev R2 := V -> V -> Hp -> VK -> Prop
noncomputable def OpR (X:Cx) (f:Value -> Value -> Sem Value) (r:R2):Prop :=
 ∀ (pins:List (Addr × Obj)) (s:Shared) (σ:St) (H:Hp) (x y:V) (v u:Value) (Q:VK),Inv X pins σ H s -> RelV x v -> RelV y u -> r x y H Q ->
   wpAny (model X.prog X.w) X.A (f v u) (EP X pins σ Q) X.xe s
noncomputable def UnR (X:Cx) (f:Value -> Sem Value) (r:V -> Hp -> VK -> Prop):Prop :=
 ∀ (pins:List (Addr × Obj)) (s:Shared) (σ:St) (H:Hp) (x:V) (v:Value) (Q:VK),Inv X pins σ H s -> RelV x v -> r x H Q ->
   wpAny (model X.prog X.w) X.A (f v) (EP X pins σ Q) X.xe s
noncomputable def yr (X:Cx) (f:Value) (r:List V -> Hp -> VK -> Prop):Prop :=
 ∀ (pins:List (Addr × Obj)) (s:Shared) (σ:St) (H:Hp) (xs:List V) (us:List Value) (Q:VK),Inv X pins σ H s -> Vals xs us -> r xs H Q ->
   wpAny (model X.prog X.w) X.A (call f us) (EP X pins σ Q) X.xe s
noncomputable def tOp (r:R2) (ta tb:TE):TE := fun σ H Q => ta σ H fun x H1 => tb σ H1 fun y H2 => r x y H2 Q
noncomputable def tUn (r:V -> Hp -> VK -> Prop) (ta:TE):TE := fun σ H Q => ta σ H fun x H1 => r x H1 Q
noncomputable def rI (C:Int -> Int -> Prop) (g:Int -> Int -> V):R2 := fun x y H Q => ∃ i j,x = .int i /\ y = .int j /\ C i j /\ Q (g i j) H
noncomputable def rI0 (g:Int -> Int -> V):R2 := fun x y H Q => ∃ i j,x = .int i /\ y = .int j /\ Q (g i j) H
noncomputable def rU (g:Int -> V):V -> Hp -> VK -> Prop := fun x H Q => ∃ i,x = .int i /\ Q (g i) H
section
variable {X:Cx} {a b c:Expr} {ta tb tc:TE} {pos:Pos}
theorem binT (ha:PE X a ta) (hb:PE X b tb) {pins:List (Addr × Obj)} {s:Shared} {σ:St} {H:Hp} {R:V -> V -> Hp -> Prop} (I:Inv X pins σ H s)
   (h:ta σ H fun x H1 => tb σ H1 fun y H2 => R x y H2) {Q:Value -> Shared -> Prop} {f:Value -> Value -> Sem Value}
   (hf:∀ v u s2 x y H2,Inv X pins σ H2 s2 -> RelV x v -> RelV y u -> R x y H2 -> wpAny (model X.prog X.w) X.A (f v u) Q X.xe s2) :
   wpAny (model X.prog X.w) X.A (eval a X.env) (fun v s₁ => wpAny (model X.prog X.w) X.A (eval b X.env) (fun u s₂ => wpAny (model X.prog X.w) X.A (f v u) Q X.xe s₂) X.xe s₁) X.xe s := by
 refine thn (ha pins s σ H _ I h) fun v s1 h9 => ?_
 obtain ⟨x,H1,I1,r1,q1⟩ := h9
 refine thn (hb pins s1 σ H1 _ I1 q1) fun u s2 h9 => ?_
 obtain ⟨y,H2,I2,r2,q2⟩ := h9
 exact hf v u s2 x y H2 I2 r1 r2 q2
theorem zk {op:Operator} {r:R2} (ho:OpR X (binaryOp op) r) (ha:PE X a ta) (hb:PE X b tb):PE X (.BinOp a op b pos) (tOp r ta tb) := by
 intro pins s σ H Q I h
 exact wpAny_BinOp (binT ha hb I h fun v u s2 x y H2 I2 rx ry q => ho pins s2 σ H2 x y v u Q I2 rx ry q)
theorem qU {op:UnaryOp} {r:V -> Hp -> VK -> Prop} (ho:UnR X (unaryOp op) r) (ha:PE X a ta):PE X (.UnaryOp op a pos) (tUn r ta) := by
 intro pins s σ H Q I h
 exact UnaryOp_ (thn (ha pins s σ H _ I h) fun v s1 ⟨x,H1,I1,r1,q1⟩ => ho pins s1 σ H1 x v Q I1 r1 q1)
theorem opI {f:Value -> Value -> Sem Value} {C:Int -> Int -> Prop} {g:Int -> Int -> Int}
   (rule:∀ (i j:Int) (t u:Tok) (s:Shared) (Q:Value -> Shared -> Prop) (E:Value -> Shared -> Prop),C i j -> Q (.int (g i j) s.toks) { s with toks := s.toks + 1 } -> wpAny (model X.prog X.w) X.A (f (.int i t) (.int j u)) Q E s) :
   OpR X f (rI C fun i j => .int (g i j)) := by
 intro pins s σ H x y v u Q I rx ry h
 obtain ⟨i,j,rfl,rfl,hc,q⟩ := h
 obtain ⟨t,rfl⟩ := rx
 obtain ⟨t',rfl⟩ := ry
 exact rule i j t t' s _ _ hc ⟨.int (g i j),H,I.tok _,⟨_,rfl⟩,q⟩
theorem opI0 {f:Value -> Value -> Sem Value} {g:Int -> Int -> Int}
   (rule:∀ (i j:Int) (t u:Tok) (s:Shared) (Q:Value -> Shared -> Prop) (E:Value -> Shared -> Prop),Q (.int (g i j) s.toks) { s with toks := s.toks + 1 } -> wpAny (model X.prog X.w) X.A (f (.int i t) (.int j u)) Q E s) :
   OpR X f (rI0 fun i j => .int (g i j)) := by
 intro pins s σ H x y v u Q I rx ry h
 obtain ⟨i,j,rfl,rfl,q⟩ := h
 obtain ⟨t,rfl⟩ := rx
 obtain ⟨t',rfl⟩ := ry
 exact rule i j t t' s _ _ ⟨.int (g i j),H,I.tok _,⟨_,rfl⟩,q⟩
theorem opB0 {f:Value -> Value -> Sem Value} {g:Int -> Int -> Bool}
   (rule:∀ (i j:Int) (t u:Tok) (s:Shared) (Q:Value -> Shared -> Prop) (E:Value -> Shared -> Prop),Q (.bool (g i j)) s -> wpAny (model X.prog X.w) X.A (f (.int i t) (.int j u)) Q E s) :
   OpR X f (rI0 fun i j => .bl (g i j)) := by
 intro pins s σ H x y v u Q I rx ry h
 obtain ⟨i,j,rfl,rfl,q⟩ := h
 obtain ⟨t,rfl⟩ := rx
 obtain ⟨t',rfl⟩ := ry
 exact rule i j t t' s _ _ ⟨.bl (g i j),H,I,rfl,q⟩
noncomputable def CDiv (i j:Int):Prop := 0 < j /\ j < 1073741824
noncomputable def CMul (i j:Int):Prop := (-(2 ^ 64) < i /\ i < 2 ^ 64) \/ (-(2 ^ 64) < j /\ j < 2 ^ 64)
theorem CMul.ok {i j:Int} (h:CMul i j):IntMulOk i j := by
 rcases h with ⟨h1,h2⟩ | ⟨h1,h2⟩
 · exact .of_left (intBits_le_64 h1 h2)
 · exact .of_right (intBits_le_64 h1 h2)
theorem zQ:OpR X (binaryOp .Add) (rI0 fun i j => .int (i + j)) := opI0 fun _ _ _ _ _ _ _ q => add_int q
theorem z8:OpR X (binaryOp .Sub) (rI0 fun i j => .int (i - j)) := opI0 fun _ _ _ _ _ _ _ q => sub_int q
theorem xV:OpR X (binaryOp .Mult) (rI CMul fun i j => .int (i * j)) := opI fun _ _ _ _ _ _ _ hc q => mul_int q hc.ok
theorem yw:OpR X (binaryOp .FloorDiv) (rI CDiv fun i j => .int (i / j)) := opI fun i j _ _ _ _ _ hc q => by
 have h1:(0:Int) < j := hc.1
 have h2:j < 1073741824 := hc.2
 exact floordiv_int (by omega) (by rw [Int.fdiv_eq_ediv_of_nonneg i (by omega)]; exact q) (.inl (PyProof.noPylong_small (by omega)))
theorem zM:OpR X (binaryOp .Mod) (rI (fun _ j => 0 < j) fun i j => .int (i % j)) := opI fun i j _ _ _ _ _ hc q => by
 have h1:(0:Int) < j := hc
 exact mod_int' (by omega) (by rw [Int.fmod_eq_emod_of_nonneg i (by omega)]; exact q)
theorem unI {f:Value -> Sem Value} {g:Int -> Int}
   (rule:∀ (i:Int) (t:Tok) (s:Shared) (Q:Value -> Shared -> Prop) (E:Value -> Shared -> Prop),Q (.int (g i) s.toks) { s with toks := s.toks + 1 } -> wpAny (model X.prog X.w) X.A (f (.int i t)) Q E s) :
   UnR X f (rU fun i => .int (g i)) := by
 intro pins s σ H x v Q I rx h
 obtain ⟨i,rfl,q⟩ := h
 obtain ⟨t,rfl⟩ := rx
 exact rule i t s _ _ ⟨.int (g i),H,I.tok _,⟨_,rfl⟩,q⟩
theorem wQ:UnR X (unaryOp .USub) (rU fun i => .int (-i)) := unI fun _ _ _ _ _ q => neg_int q
end
noncomputable def scal:V -> V -> Bool
 | .non,.non => true | .non,.int _ => true | .int _,.non => true | .non,.bl _ => true | .bl _,.non => true | .non,.str _ => true | .str _,.non => true
 | .int _,.int _ => true | .bl _,.bl _ => true | .str _,.str _ => true | .byt _,.byt _ => true
 | .int _,.str _ => true | .str _,.int _ => true | .bl _,.str _ => true | .str _,.bl _ => true
 | _,_ => false
noncomputable def rEq:R2 := fun x y H Q => scal x y = true /\ Q (.bl (decide (x = y))) H
noncomputable def rNe:R2 := fun x y H Q => scal x y = true /\ Q (.bl (!decide (x = y))) H
theorem Xp {i j:Int}:decide (V.int i = V.int j) = (i == j) := by
 rw [Bool.eq_iff_iff]
 simp
theorem Ws {i j:Bool}:decide (V.bl i = V.bl j) = (i == j) := by
 rw [Bool.eq_iff_iff]
 simp
theorem Xq {i j:Str}:decide (V.str i = V.str j) = (i == j) := by
 rw [Bool.eq_iff_iff]
 simp
theorem Xr {i j:Array UInt8}:decide (V.byt i = V.byt j) = (i.toList == j.toList) := by
 rw [Bool.eq_iff_iff]
 cases i
 cases j
 simp
section
variable {X:Cx} {a b c:Expr} {ta tb tc:TE} {pos:Pos}
theorem zR {pins:List (Addr × Obj)} {σ:St} {H:Hp} {s:Shared} {Q:VK} {k k':Bool} (I:Inv X pins σ H s) (q:Q (.bl k) H) (e:k = k'):EP X pins σ Q (.bool k') s := by
 subst e
 exact ⟨.bl k,H,I,rfl,q⟩
theorem yY:OpR X (compareOp .Eq) rEq := by
 intro pins s σ H x y v u Q I rx ry h
 obtain ⟨hs,q⟩ := h
 cases x with
 | non =>
   cases rx
   cases y with
   | non => cases ry; exact PySem.EqNone.eq_none_none (zR I q (by simp))
   | bl j => cases ry; exact PySem.EqNone.eq_none_bool (zR I q (by simp))
   | int j => obtain ⟨t',rfl⟩ := ry; exact PySem.EqNone.eq_none_int (zR I q (by simp))
   | str j => obtain ⟨t',rfl⟩ := ry; exact PySem.EqNone.eq_none_str (zR I q (by simp))
   | _ => exact absurd (show false = true from hs) Bool.false_ne_true
 | bl i =>
   cases rx
   cases y with
   | non => cases ry; exact PySem.EqNone.eq_bool_none (zR I q (by simp))
   | bl j => cases ry; exact eq_bool (zR I q Ws)
   | str j => obtain ⟨t',rfl⟩ := ry; exact PySem.EqMixed.eq_bool_str (zR I q (by simp))
   | _ => exact absurd (show false = true from hs) Bool.false_ne_true
 | int i =>
   obtain ⟨t,rfl⟩ := rx
   cases y with
   | non => cases ry; exact PySem.EqNone.eq_int_none (zR I q (by simp))
   | int j => obtain ⟨t',rfl⟩ := ry; exact eq_int (zR I q Xp)
   | str j => obtain ⟨t',rfl⟩ := ry; exact PySem.EqMixed.eq_int_str (zR I q (by simp))
   | _ => exact absurd (show false = true from hs) Bool.false_ne_true
 | str i =>
   obtain ⟨t,rfl⟩ := rx
   cases y with
   | non => cases ry; exact PySem.EqNone.eq_str_none (zR I q (by simp))
   | bl j => cases ry; exact PySem.EqMixed.eq_str_bool (zR I q (by simp))
   | int j => obtain ⟨t',rfl⟩ := ry; exact PySem.EqMixed.eq_str_int (zR I q (by simp))
   | str j => obtain ⟨t',rfl⟩ := ry; exact eq_str (zR I q Xq)
   | _ => exact absurd (show false = true from hs) Bool.false_ne_true
 | byt i =>
   obtain ⟨t,rfl⟩ := rx
   cases y with
   | byt j => obtain ⟨t',rfl⟩ := ry; exact PySem.W.eq_bytes (zR I q Xr)
   | _ => exact absurd (show false = true from hs) Bool.false_ne_true
 | _ => cases y <;> exact absurd (show false = true from hs) Bool.false_ne_true
theorem Z7:OpR X (compareOp .NotEq) rNe := by
 intro pins s σ H x y v u Q I rx ry h
 obtain ⟨hs,q⟩ := h
 cases x with
 | non =>
   cases rx
   cases y with
   | non => cases ry; exact PySem.EqNone.ne_none_none (zR I q (by simp))
   | bl j => cases ry; exact PySem.EqNone.ne_none_bool (zR I q (by simp))
   | int j => obtain ⟨t',rfl⟩ := ry; exact PySem.EqNone.ne_none_int (zR I q (by simp))
   | str j => obtain ⟨t',rfl⟩ := ry; exact PySem.EqNone.ne_none_str (zR I q (by simp))
   | _ => exact absurd (show false = true from hs) Bool.false_ne_true
 | bl i =>
   cases rx
   cases y with
   | non => cases ry; exact PySem.EqNone.ne_bool_none (zR I q (by simp))
   | bl j => cases ry; exact ne_bool (zR I q (congrArg not Ws))
   | str j => obtain ⟨t',rfl⟩ := ry; exact PySem.EqMixed.ne_bool_str (zR I q (by simp))
   | _ => exact absurd (show false = true from hs) Bool.false_ne_true
 | int i =>
   obtain ⟨t,rfl⟩ := rx
   cases y with
   | non => cases ry; exact PySem.EqNone.ne_int_none (zR I q (by simp))
   | int j => obtain ⟨t',rfl⟩ := ry; exact ne_int (zR I q (congrArg not Xp))
   | str j => obtain ⟨t',rfl⟩ := ry; exact PySem.EqMixed.ne_int_str (zR I q (by simp))
   | _ => exact absurd (show false = true from hs) Bool.false_ne_true
 | str i =>
   obtain ⟨t,rfl⟩ := rx
   cases y with
   | non => cases ry; exact PySem.EqNone.ne_str_none (zR I q (by simp))
   | bl j => cases ry; exact PySem.EqMixed.ne_str_bool (zR I q (by simp))
   | int j => obtain ⟨t',rfl⟩ := ry; exact PySem.EqMixed.ne_str_int (zR I q (by simp))
   | str j => obtain ⟨t',rfl⟩ := ry; exact ne_str (zR I q (congrArg not Xq))
   | _ => exact absurd (show false = true from hs) Bool.false_ne_true
 | byt i =>
   obtain ⟨t,rfl⟩ := rx
   cases y with
   | byt j => obtain ⟨t',rfl⟩ := ry; exact PySem.W.ne_bytes (zR I q (congrArg not Xr))
   | _ => exact absurd (show false = true from hs) Bool.false_ne_true
 | _ => cases y <;> exact absurd (show false = true from hs) Bool.false_ne_true
theorem yt:OpR X (compareOp .Lt) (rI0 fun i j => .bl (decide (i < j))) := opB0 fun _ _ _ _ _ _ _ q => lt_int q
theorem qV:OpR X (compareOp .LtE) (rI0 fun i j => .bl (decide (i <= j))) := opB0 fun _ _ _ _ _ _ _ q => le_int q
theorem we:OpR X (compareOp .Gt) (rI0 fun i j => .bl (decide (j < i))) := opB0 fun _ _ _ _ _ _ _ q => gt_int q
theorem za1:OpR X (compareOp .GtE) (rI0 fun i j => .bl (decide (j <= i))) := opB0 fun _ _ _ _ _ _ _ q => ge_int q
theorem zak:OpR X (compareOp .Is) (fun x y H Q => y = .non /\ Q (.bl (decide (x = .non))) H) := by
 intro pins s σ H x y v u Q I rx ry h
 obtain ⟨rfl,q⟩ := h
 cases ry
 refine is_none_gen (zR I q ?_)
 cases x <;> first
   | (cases rx; rfl)
   | (obtain ⟨t,rfl⟩ := rx; rfl)
theorem zr (b:Expr) {op:CmpOp} (h:op ≠ .In := by decide) (h2:op ≠ .NotIn := by decide):behindInMarks op b = false := by
 have e1:(op == CmpOp.In) = false := by cases op <;> first | rfl | exact absurd rfl h
 have e2:(op == CmpOp.NotIn) = false := by cases op <;> first | rfl | exact absurd rfl h2
 cases b <;> simp [behindInMarks,e1,e2]
theorem ye {op:CmpOp} {r:R2} (ho:OpR X (compareOp op) r) (ha:PE X a ta) (hb:PE X b tb) (hm:behindInMarks op b = false):PE X (.Compare a [op] [b] pos) (tOp r ta tb) := by
 intro pins s σ H Q I h
 exact wpAny_Compare1 (binT ha hb I h fun v u s2 x y H2 I2 rx ry q => ho pins s2 σ H2 x y v u Q I2 rx ry q) hm
noncomputable def XN (t:TE):TT := fun σ H Q => t σ H fun x H' => ∃ k,x = .bl k /\ Q k H'
theorem zu {op:CmpOp} {r:R2} (ho:OpR X (compareOp op) r) (ha:PE X a ta) (hb:PE X b tb) (hm:behindInMarks op b = false):PT X (.Compare a [op] [b] pos) (XN (tOp r ta tb)) := by
 intro pins s σ H Q I h
 refine wpAny_isTrue_Compare1 (thn (ha pins s σ H _ I h) fun v s1 ⟨x,H1,I1,r1,q1⟩ => thn (hb pins s1 σ H1 _ I1 q1) fun u s2 ⟨y,H2,I2,r2,q2⟩ =>
   thn (ho pins s2 σ H2 x y v u _ I2 r1 r2 q2) fun c s3 ⟨z,H3,I3,r3,k,e,q3⟩ => ?_) hm
 subst e
 cases r3
 exact wpAny_truthy_bool ⟨H3,I3,q3⟩
noncomputable def Wt (r r':R2) (ta tb tc:TE):TE := fun σ H Q => ta σ H fun x H1 => tb σ H1 fun y H2 => r x y H2 fun z H3 => ∃ k,z = .bl k /\
 (if k = true then tc σ H3 fun w' H4 => r' y w' H4 Q else Q (.bl false) H3)
theorem QD {op op':CmpOp} {r r':R2} (ho:OpR X (compareOp op) r) (ho':OpR X (compareOp op') r') (ha:PE X a ta) (hb:PE X b tb) (hc:PE X c tc)
   (hm:lastMarks [op,op'] [b,c] = false := by with_unfolding_all rfl):PT X (.Compare a [op,op'] [b,c] pos) (XN (Wt r r' ta tb tc)) := by
 intro pins s σ H Q I h
 refine isTrue_chain (thn (ha pins s σ H _ I h) fun v s1 ⟨x,H1,I1,r1,q1⟩ => test_link (thn (hb pins s1 σ H1 _ I1 q1) fun u s2 ⟨y,H2,I2,r2,q2⟩ =>
   thn (ho pins s2 σ H2 x y v u _ I2 r1 r2 q2) fun d s3 ⟨z,H3,I3,r3,k,e,q3⟩ => ?_)) hm
 subst e
 cases r3
 refine wpAny_truthy_bool ?_
 cases k with
 | false =>
   obtain ⟨k',e',q'⟩ := q3
   cases e'
   exact ite_ff ⟨H3,I3,q'⟩
 | true =>
   refine ite_tt (test_last (thn (hc pins s3 σ H3 _ I3 q3) fun w' s4 ⟨z',H4,I4,r4,q4⟩ => thn (ho' pins s4 σ H4 y z' u w' _ I4 r2 r4 q4) fun d' s5 h9 => ?_))
   obtain ⟨z2,H5,I5,r5,k2,e2,q5⟩ := h9
   subst e2
   cases r5
   exact wpAny_truthy_bool ⟨H5,I5,q5⟩
theorem wR:(sizeLine:Nat) < 2 ^ 63 := by rw [sizeLine_eq]; decide
theorem wg:OpR X (binaryOp .Add) (fun x y H Q => ∃ i j,x = .str i /\ y = .str j /\ i.length + j.length <= sizeLine /\ Q (.str (i ++ j)) H) := by
 intro pins s σ H x y v u Q I rx ry h
 obtain ⟨i,j,rfl,rfl,hz,q⟩ := h
 obtain ⟨t,rfl⟩ := rx
 obtain ⟨t',rfl⟩ := ry
 exact add_str (fun t' tk => ⟨.str (i ++ j),H,I.tok _,⟨_,rfl⟩,q⟩) hz
theorem vals1 {x:V} {us:List Value} (r:Vals [x] us):∃ u,us = [u] /\ RelV x u := by
 cases r with
 | cons r1 r2 => cases r2; exact ⟨_,rfl,r1⟩
theorem vals2 {x y:V} {us:List Value} (r:Vals [x,y] us):∃ u w',us = [u,w'] /\ RelV x u /\ RelV y w' := by
 cases r with
 | cons r1 r2 =>
   cases r2 with
   | cons r3 r4 => cases r4; exact ⟨_,_,rfl,r1,r3⟩
theorem Zy (hc:X.calm = true):yr X (.builtin "max") (fun xs H Q => ∃ i j,xs = [.int i,.int j] /\ Q (.int (if j > i then j else i)) H) := by
 intro pins s σ H xs us Q I r h
 obtain ⟨i,j,rfl,q⟩ := h
 obtain ⟨u,w',rfl,⟨t,rfl⟩,⟨t',rfl⟩⟩ := vals2 r
 refine max_two_ints (I.ok.hd hc) fun h' tk k => ⟨_,H,I.kept k,?_,q⟩
 by_cases hj:j > i
 · rw [if_pos hj,if_pos hj]; exact ⟨_,rfl⟩
 · rw [if_neg hj,if_neg hj]; exact ⟨_,rfl⟩
theorem Zz (hc:X.calm = true):yr X (.builtin "min") (fun xs H Q => ∃ i j,xs = [.int i,.int j] /\ Q (.int (if j < i then j else i)) H) := by
 intro pins s σ H xs us Q I r h
 obtain ⟨i,j,rfl,q⟩ := h
 obtain ⟨u,w',rfl,⟨t,rfl⟩,⟨t',rfl⟩⟩ := vals2 r
 refine min_two_ints (I.ok.hd hc) fun h' tk k => ⟨_,H,I.kept k,?_,q⟩
 by_cases hj:j < i
 · rw [if_pos hj,if_pos hj]; exact ⟨_,rfl⟩
 · rw [if_neg hj,if_neg hj]; exact ⟨_,rfl⟩
end
end _L2
namespace _L2
open PySem PySem.Spec PyProof.Rows
structure ObjM (h:Heap) (x dx C:Addr) (mA:Str -> Option Value):Prop where
 obj:h.get? x = some (PySem.W.instObj C dx)
 ns:h.Ns1 dx mA
 ne:dx ≠ x
theorem Wu {h:Heap} {dx:Addr} {mA:Str -> Option Value} (n:h.Ns1 dx mA):∃ od,h.get? dx = some od /\ ∀ name,PySem.W.lookIn name od = some (mA name) := by
 obtain ⟨o,es,ep,ho,hd,hk,_,hm⟩ := n
 refine ⟨o,ho,fun name => ?_⟩
 have e := hm name
 unfold nsFind findBy at e
 rw [<- Array.find?_toList] at e
 unfold PySem.W.lookIn
 rw [hd]
 dsimp only
 split
 · rename_i y q
   rw [q] at e
   exact congrArg some e
 · rename_i q
   rw [q] at e
   have a:es.toList.any (·.refKey) = false := by
     rw [List.any_eq_false]
     intro y hy
     obtain ⟨z,t,hkey⟩ := hk y (Array.mem_toList_iff.mp hy)
     simp [DictEntry.refKey,hkey]
   have a':¬ es.toList.any (·.refKey) = true := by rw [a]; exact Bool.false_ne_true
   rw [if_neg a']
   exact congrArg some e
theorem ObjM.look {h:Heap} {x dx C:Addr} {mA:Str -> Option Value} (I:ObjM h x dx C mA):∃ od,PySem.W.InstAt h x (PySem.W.instObj C dx) C (some od) /\ ∀ name,PySem.W.lookIn name od = some (mA name) :=
 let ⟨od,ho,hl⟩ := Wu I.ns
 ⟨od,⟨I.obj,rfl,rfl,ho⟩,hl⟩
section
variable {P:Program} {w:World} {H H':Hp} {h h':Heap} {a C dx:Addr} {fs fs':List (Str × V)}
theorem Jp (hok:HOk P w H h) (e:H a = some (.ins C dx fs)):∃ mA,ObjM h a dx C mA /\ (∀ f,RelO (fs.lookup f) (mA f)) /\ PySem.Within mA (fs.map (·.1)) /\ fs.length <= 1000 /\ H dx = some (.own a) := by
 obtain ⟨d,z,ne,ob,mA,n,r,q⟩ := (show z7 P w H h a (.ins C dx fs) from hok a _ e)
 exact ⟨mA,⟨ob,n,ne⟩,r,q,z,d⟩
end
structure Cls (K:PySem.W.Frag) (C:Addr):Prop where
 pg:PySem.W.plainGet K C Str.empty = true
 hd:PySem.W.hasDictIn K C = true
 po:PySem.W.plainOver K C = true
 sa:PySem.W.findIn K (.ref C) "__setattr__" = some (some (.builtin "object.__setattr__"))
theorem Cls.get {K:PySem.W.Frag} {C:Addr} (c:Cls K C) (f:Str):PySem.W.plainGet K C f = true := c.pg
section
variable {X:Cx} {pins:List (Addr × Obj)} {σ:St} {H:Hp} {s:Shared} {A:Around} {E:Value -> Shared -> Prop} {Q:Value -> Shared -> Prop} {c:Value} {b:Bool}
inductive TyOf (K:PySem.W.Frag) (H:Hp):V -> Value -> Prop where
 | non:TyOf K H .non (.type "NoneType")
 | bl (x:Bool):TyOf K H (.bl x) (.type "bool")
 | int (i:Int):TyOf K H (.int i) (.type "int")
 | str (x:Str):TyOf K H (.str x) (.type "str")
 | flt (x:UInt64):TyOf K H (.flt x) (.type "float")
 | lst {a:Addr} {xs:List V} (e:H a = some (.lst xs)):TyOf K H (.ref a) (.type "list")
 | frz {a:Addr} {o:Obj} {xs:List V} (e:H a = some (.frz o (.lst xs))):TyOf K H (.ref a) (.type "list")
 | tup {a:Addr} {xs:List V} (e:H a = some (.tup xs)):TyOf K H (.ref a) (.type "tuple")
 | dK {a:Addr} {kvs:List (Key × V)} (e:H a = some (.dK kvs)):TyOf K H (.ref a) (.type "dict")
 | dT {a:Addr} {kvs:List (List Key × V)} (e:H a = some (.dT kvs)):TyOf K H (.ref a) (.type "dict")
 | ins {a C dx:Addr} {fs:List (Str × V)} (e:H a = some (.ins C dx fs)) (cl:Cls K C) (ha:PySem.W.findIn K (.ref C) "__class__" = some (some (.builtin "object.__class__")))
     (hn:PySem.W.specialIn K (.builtin "object.__class__") "__get__" = some (some (.builtin "getset_descriptor.__get__"))) (htk:PySem.W.takesIn K (.builtin "object.__class__") = some true)
     (hm:PySem.W.mroIn K C (.type "object") = some true):TyOf K H (.ref a) (.ref C)
end
end _L2
namespace _L2
open PySem PySem.Spec PyProof.Rows
structure Room (k:Nat) (A:Around):Prop where
 hd:A.handled = none
 dp:A.depth + 3 * k + 5 < recursionLimit
 un:A.units + 16 * k + 200 < cLine
theorem Room.mono {j k:Nat} {A:Around} (r:Room k A) (h:j <= k):Room j A := ⟨r.hd,by have := r.dp; omega,by have := r.un; omega⟩
theorem Room.deeper {k:Nat} {A:Around} (r:Room (k + 1) A) (env:Env):Room k (A.deeper env) :=
 ⟨r.hd,by have := r.dp; show A.depth + 1 + 3 * k + 5 < _; omega,by have := r.un; show A.units + 3 + 16 * k + 200 < _; omega⟩
theorem Room.in1 {k:Nat} {A:Around} (r:Room (k + 1) A):Room k A.in1 :=
 ⟨r.hd,by have := r.dp; show A.depth + 3 * k + 5 < _; omega,by have := r.un; show A.units + 1 + 16 * k + 200 < _; omega⟩
theorem Room.depth {k:Nat} {A:Around} (r:Room k A):A.depth < recursionLimit := by have := r.dp; omega
theorem Room.units {k:Nat} {A:Around} (r:Room k A):A.units + 64 < cLine := by have := r.un; omega
theorem Room.units0 {k:Nat} {A:Around} (r:Room k A):A.units < cLine := by have := r.un; omega
noncomputable def tNil:TA := fun _ H Q => Q [] H
noncomputable def zB (ta:TE) (tr:TA):TA := fun σ H Q => ta σ H fun x H1 => tr σ H1 fun xs H2 => Q (x :: xs) H2
section
variable {X:Cx} {e:Expr} {es:List Expr} {te:TE} {t:TA} {pos:Pos}
theorem zb:PA X [] tNil := fun _ _ _ _ H Q I h => Calls.spliced_nil ⟨[],H,I,.nil,h⟩
theorem za (ha:PE X e te) (hr:PA X es t) (hs:starEach (e :: es) X.env = (false,eval e X.env) :: starEach es X.env := by rfl):PA X (e :: es) (zB te t) := by
 intro pos pins s σ H Q I h
 rw [hs]
 show wpAny _ _ (spliced ((false,eval e X.env) :: backTo pos (starEach es X.env))) _ _ s
 refine Calls.spliced_cons (thn (ha pins s σ H _ I h) fun u s1 h9 => ?_)
 obtain ⟨x,H1,I1,r1,q1⟩ := h9
 exact thn (hr pos pins s1 σ H1 _ I1 q1) fun us s2 ⟨xs,H2,I2,r2,q2⟩ => ⟨x :: xs,H2,I2,.cons r1 r2,q2⟩
noncomputable def tTup (t:TA):TE := fun σ H Q => t σ H fun xs H1 => xs.length <= sizeLine /\ ∀ p,H1 p = none -> Q (.ref p) (upd H1 p (.tup xs))
noncomputable def tLst (t:TA):TE := fun σ H Q => t σ H fun xs H1 => xs.length <= sizeLine /\ ∀ p,H1 p = none -> Q (.ref p) (upd H1 p (.lst xs))
theorem zS {x1} (h:PA X es t):PE X (.Tuple es x1 pos) (tTup t) := by
 intro pins s σ H Q I hq
 refine wpAny_Tuple_spliced (thn (h pos pins s σ H _ I hq) fun us s1 ⟨xs,H1,I1,r,z,q⟩ => ⟨by rw [<- r.length]; exact z,?_⟩)
 have hf:H1 s1.heap.objs.size = none := I1.hok.fresh (Nat.le_refl _)
 refine ⟨.ref s1.heap.objs.size,upd H1 s1.heap.objs.size (.tup xs),I1.laid (t' := s1.toks) (fun b u e => Heap.get?_push_of_some _ e) (Nat.le_refl _) ?_,rfl,q _ hf⟩
 exact ⟨z,us,r,⟨_,Heap.get?_push_size _ rfl,rfl,_,rfl⟩⟩
theorem zX (h:PA X es t):PE X (.List es pos) (tLst t) := by
 intro pins s σ H Q I hq
 refine wpAny_List_spliced (thn (h pos pins s σ H _ I hq) fun us s1 ⟨xs,H1,I1,r,z,q⟩ => ⟨by rw [<- r.length]; exact z,?_⟩)
 have hf:H1 s1.heap.objs.size = none := I1.hok.fresh (Nat.le_refl _)
 refine ⟨.ref s1.heap.objs.size,upd H1 s1.heap.objs.size (.lst xs),I1.laid (t' := s1.toks) (fun b u e => Heap.get?_push_of_some _ e) (Nat.le_refl _) ?_,rfl,q _ hf⟩
 exact ⟨z,us,0,r,Heap.get?_push_size _ rfl⟩
end
abbrev Sp := List V -> Hp -> VK -> XK -> Prop
abbrev CXT := List Env -> Hp -> Shared -> XK -> Value -> Shared -> Prop
structure Env0 (P:Program) (w:World) (K:PySem.W.Frag) (mg:Str -> Option Value) (base:Heap) (A:Around) (outer:List Env) (s:Shared) (H:Hp):Prop where
 frames:A.frames = some outer
 mod:Mod K mg base
 bs:∀ b o,base.get? b = some o -> s.heap.get? b = some o /\ H b = none
 bsz:base.objs.size <= s.heap.objs.size
 funs:s.heap.FunFrames base outer
 frf:∀ b ∈ frs outer,H b = none
 hok:HOk P w H s.heap
 bare:AllBare s.gens
noncomputable def CE (outer:List Env) (P:Program) (w:World) (H:Hp) (s:Shared) (Q:VK) (u:Value) (s':Shared):Prop :=
 ∃ v H',s'.os = s.os /\ AllBare s'.gens /\ Un (frs outer) [] H H' s.heap s'.heap /\ HOk P w H' s'.heap /\ RelV v u /\ Q v H'
noncomputable def CR (CX:CXT) (outer:List Env) (P:Program) (w:World) (H:Hp) (s:Shared) (Q:VK) (E:XK) (r:Result) (s':Shared):Prop :=
 match r with
 | .ok (.ret u) => CE outer P w H s Q u s'
 | .ok _ => False
 | .error e => CX outer H s E e s'
structure FnOk (P:Program) (w:World) (K:PySem.W.Frag) (mg:Str -> Option Value) (base:Heap) (CX:CXT) (k:Nat) (f:Addr) (fd:FuncData) (ps:List Str) (sp:Sp):Prop where
 len:∀ vs H Q E,sp vs H Q E -> vs.length = ps.length
 run:∀ (A:Around) (outer:List Env) (s:Shared) (H:Hp) (args:Args) (us:List Value) (vs:List V) (Q:VK) (E:XK),Room k A -> Env0 P w K mg base A outer s H -> BindsTo s fd args (ps.zip us) -> Vals vs us -> sp vs H Q E ->
   codeAny (model P w) A (.call (.ref f) args) (CR CX outer P w H s Q E) s
section
variable {X:Cx} {pins:List (Addr × Obj)} {σ:St} {H:Hp} {s s':Shared}
theorem Inv.env0 (I:Inv X pins σ H s):Env0 X.prog X.w X.K X.mg X.base X.A X.stack s H :=
 ⟨I.ok.frames,I.ok.mod,I.bs,Nat.le_trans I.ok.bsz I.sz,I.stack,I.stkFree,I.hok,I.bare⟩
theorem Inv.after {Q:VK} {u:Value} (I:Inv X pins σ H s) (h:CE X.stack X.prog X.w H s Q u s'):EP X pins σ Q u s' := by
 obtain ⟨v,H',os,bare,un,hok,r,q⟩ := h
 obtain ⟨hh,g,d,t,os'⟩ := s'
 obtain rfl:os' = s.os := os
 exact ⟨v,H',I.call (h' := hh) (g' := g) (d' := d) (t' := t) (ch := []) un hok bare (fun b z => absurd z (by simp)),r,q⟩
end
noncomputable def za2 (sp:Sp) (dvs:List V) (E:XK) (t:TA):TE := fun σ H Q => t σ H fun vs H1 => sp (vs ++ dvs) H1 Q E
noncomputable def Binds (K:PySem.W.Frag) (fd:FuncData) (ps:List Str) (ds:List Value):Prop :=
 ∀ (s:Shared) (us:List Value),K.In s.heap -> (us ++ ds).length = ps.length -> BindsTo s fd ⟨us,[]⟩ (ps.zip (us ++ ds))
theorem Binds.all {K:PySem.W.Frag} {fd:FuncData} {ps:List Str} (h:∀ us:List Value,us.length = ps.length -> bindArgs fd ⟨us,[]⟩ = pure (ps.zip us)):Binds K fd ps [] := fun s us _ hl => by
 rw [List.append_nil] at hl ⊢
 exact .of_eq (h us hl)
noncomputable def jN (CX:CXT) (X:Cx) (E:XK):Prop := ∀ (pins:List (Addr × Obj)) (σ:St) (H:Hp) (s:Shared) (e:Value) (s':Shared),Inv X pins σ H s -> CX X.stack H s E e s' -> X.xe e s'
section
variable {X:Cx} {CX:CXT} {k:Nat} {f C:Addr} {fd:FuncData} {ps:List Str} {sp:Sp} {dvs:List V} {ds:List Value} {E:XK} {x m:Str} {p pos apos:Pos} {e o:Expr} {es:List Expr} {ta:TE} {t:TA}
theorem zal {pins:List (Addr × Obj)} {σ:St} {H:Hp} {s:Shared} {Q:VK} {us:List Value} {vs:List V} (F:FnOk X.prog X.w X.K X.mg X.base CX k f fd ps sp) (hr:Room k X.A) (hb:Binds X.K fd ps ds) (hd:Vals dvs ds) (hx:jN CX X E)
   (I:Inv X pins σ H s) (r:Vals vs us) (h:sp (vs ++ dvs) H Q E):wpAny (model X.prog X.w) X.A (call (.ref f) us) (EP X pins σ Q) X.xe s := by
 have r2:Vals (vs ++ dvs) (us ++ ds) := r.append hd
 have hl:(us ++ ds).length = ps.length := by rw [<- r2.length]; exact F.len _ _ _ _ h
 refine wpAny_call (codeAny_mono (F.run X.A X.stack s H ⟨us,[]⟩ (us ++ ds) (vs ++ dvs) Q E hr I.env0 (hb s us I.kIn hl) r2 h) fun r s' hq => ?_)
 cases r with
 | error e => exact hx pins σ H s e s' I hq
 | ok fl =>
   cases fl with
   | ret u => exact I.after hq
   | next => exact False.elim hq
   | brk => exact False.elim hq
   | cont => exact False.elim hq
theorem zF (F:FnOk X.prog X.w X.K X.mg X.base CX k f fd ps sp) (hr:Room k X.A) (hg:Gl X x) (hm:X.mg x = some (.ref f)) (hk:PySem.W.keepIn X.K (.ref f) = true) (hb:Binds X.K fd ps ds) (hd:Vals dvs ds) (hx:jN CX X E)
   (ha:PA X (e :: es) t) (hdb:(x == ("__debug__" : Str)) = false := by decide) (he:starEach (e :: es) X.env = (false,eval e X.env) :: starEach es X.env := by rfl) (hpl:(backTo pos (starEach es X.env)).any (·.1) = false := by rfl) :
   PE X (.Call (.Name x p) (e :: es) [] pos) (za2 sp dvs E t) := by
 intro pins s σ H Q I h
 refine wpAny_Call_Name_kw (xk I hg hm ?_ hdb)
 refine PySem.W.callWith_K (h₀ := X.base) I.ok.mod.kin hk (thn (ha pos pins s σ H _ I h) fun us s1 ⟨vs,H1,I1,r,q⟩ => ⟨I1.kIn,?_⟩) he hpl
 exact zal F hr hb hd hx I1 r q
end
noncomputable def PK (X:Cx) (kws:List Keyword) (t:TA):Prop :=
 ∀ (pos:Pos) (pins:List (Addr × Obj)) (s:Shared) (σ:St) (H:Hp) (Q:List V -> Hp -> Prop),Inv X pins σ H s -> t σ H Q -> wpAny (model X.prog X.w) X.A (evalAll ((backToKw pos (keywordEach kws X.env)).map (·.2))) (AP X pins σ Q) X.xe s
section
variable {X:Cx} {CX:CXT} {k:Nat} {f C:Addr} {fd:FuncData} {ps ks:List Str} {sp:Sp} {E:XK} {x m:Str} {p pos apos kpos:Pos} {e o:Expr} {es:List Expr} {kws:List Keyword} {te ta:TE} {t tk:TA} {nm:Option Str}
theorem Yd:PK X [] tNil := fun _ _ _ _ H Q I h => wpAny_evalAll_nil ⟨[],H,I,.nil,h⟩
theorem Za (ha:PE X e te) (hr:PK X kws t):PK X (⟨nm,e,kpos⟩ :: kws) (zB te t) := by
 intro pos pins s σ H Q I h
 show wpAny _ _ (evalAll ((do let v <- eval e X.env; standAt pos; pure v) :: (backToKw pos (keywordEach kws X.env)).map (·.2))) _ _ s
 refine wpAny_evalAll_cons (wpAny_bind (thn (ha pins s σ H _ I h) fun u s1 ⟨x,H1,I1,r1,q1⟩ => wpAny_bind (wpAny_standAt (wpAny_pure ?_))))
 exact thn (hr pos pins s1 σ H1 _ I1 q1) fun us s2 ⟨xs,H2,I2,r2,q2⟩ => ⟨x :: xs,H2,I2,.cons r1 r2,q2⟩
end
structure zC (N P:List Str) (sc:Scope):Prop where
 kind:sc.kind = .function
 co:sc.isCoroutine = false
 gen:sc.isGenerator = false
 nd:N.Nodup
 pre:N.take P.length = P
 par:∀ x ∈ P,sc.names.lookup x = some .local \/ sc.names.lookup x = some .cell
 nofree:∀ y ∈ sc.names,y.2 ≠ .free
theorem ZA {kindOf:Str -> Option NameKind} {x:Str}:∀ {binds:List (Str × Value)} {m:Str -> Option Value},(∀ v,(x,v) ∉ binds) -> bindL kindOf binds m x = m x
 | [],_,_ => rfl
 | (n,v) :: r,m,h => by
   unfold bindL
   rw [ZA fun w hw => h w (List.mem_cons_of_mem _ hw)]
   split
   · have:x ≠ n := by rintro rfl; exact h v List.mem_cons_self
     simp [this]
   · rfl
theorem ZB {kindOf:Str -> Option NameKind} {x:Str}:∀ {binds:List (Str × Value)} {m:Str -> Option Value},(∀ v,(x,v) ∉ binds) -> bindC kindOf binds m x = m x
 | [],_,_ => rfl
 | (n,v) :: r,m,h => by
   unfold bindC
   rw [ZB fun w hw => h w (List.mem_cons_of_mem _ hw)]
   split
   · rfl
   · have:x ≠ n := by rintro rfl; exact h v List.mem_cons_self
     simp [this]
theorem ZC {kindOf:Str -> Option NameKind} {x:Str} {v:Value}:∀ {P:List Str} {vs:List Value} {i:Nat} {m:Str -> Option Value},P.Nodup -> P[i]? = some x -> vs[i]? = some v -> kindOf x = some .local ->
   bindL kindOf (P.zip vs) m x = some v
 | [],_,_,_,_,h,_,_ => by simp at h
 | _ :: _,[],_,_,_,_,h,_ => by simp at h
 | p :: P,w :: vs,0,m,nd,h1,h2,hk => by
   simp at h1 h2; subst h1; subst h2
   show bindL kindOf ((p,w) :: P.zip vs) m p = _
   unfold bindL
   rw [ZA fun v hv => (List.nodup_cons.mp nd).1 (List.of_mem_zip hv).1,if_pos hk]
   simp
 | p :: P,w :: vs,i + 1,m,nd,h1,h2,hk => by
   show bindL kindOf ((p,w) :: P.zip vs) m x = _
   unfold bindL
   exact ZC (i := i) (List.nodup_cons.mp nd).2 (by simpa using h1) (by simpa using h2) hk
theorem ZD {kindOf:Str -> Option NameKind} {x:Str} {v:Value}:∀ {P:List Str} {vs:List Value} {i:Nat} {m:Str -> Option Value},P.Nodup -> P[i]? = some x -> vs[i]? = some v -> kindOf x ≠ some .local ->
   bindC kindOf (P.zip vs) m x = some v
 | [],_,_,_,_,h,_,_ => by simp at h
 | _ :: _,[],_,_,_,_,h,_ => by simp at h
 | p :: P,w :: vs,0,m,nd,h1,h2,hk => by
   simp at h1 h2; subst h1; subst h2
   show bindC kindOf ((p,w) :: P.zip vs) m p = _
   unfold bindC
   rw [ZB fun v hv => (List.nodup_cons.mp nd).1 (List.of_mem_zip hv).1,if_neg hk]
   simp
 | p :: P,w :: vs,i + 1,m,nd,h1,h2,hk => by
   show bindC kindOf ((p,w) :: P.zip vs) m x = _
   unfold bindC
   exact ZD (i := i) (List.nodup_cons.mp nd).2 (by simpa using h1) (by simpa using h2) hk
noncomputable def start (N:List Str) (vs:List V):St := vs.map some ++ List.replicate (N.length - vs.length) none
noncomputable def cxOf (CX:CXT) (P:Program) (w:World) (K:PySem.W.Frag) (mg:Str -> Option Value) (base:Heap) (N:List Str) (qual:Str) (scope:Scope) (f:Addr) (cd:Value) (A:Around) (outer:List Env) (s:Shared) (H:Hp) (E:XK):Cx where
 prog := P
 w := w
 K := K
 mg := mg
 base := base
 A := A.deeper (envOfC qual scope s.heap.objs.size f cd)
 N := N
 s₀ := s
 H₀ := H
 env := envOfC qual scope s.heap.objs.size f cd
 outer := outer
 stack := envOfC qual scope s.heap.objs.size f cd :: outer
 ex := []
 calm := true
 fn := fun _ => true
 pn := []
 xe := fun e s' => wpAny (model P w) (A.deeper (envOfC qual scope s.heap.objs.size f cd)) (leaving (envOfC qual scope s.heap.objs.size f cd) e) (fun _ s'' => CX outer H s E e s'') (fun e' s'' => CX outer H s E e' s'') s'
theorem Ye {sc:Scope} {n:Nat} {x:Str} (h:sc.names.lookup x = some .cell):∃ c,(cellsFrom n sc.names []).lookup x = some c := by
 have q := PySem.W.cellsFrom_some sc.names n [] (.inl h)
 exact Option.isSome_iff_exists.mp q
theorem ZE {CX:CXT} {P:Program} {w:World} {K:PySem.W.Frag} {mg:Str -> Option Value} {base:Heap} {N ps:List Str} {qual:Str} {scope:Scope} {f:Addr} {cd:Value} {A:Around} {outer:List Env} {s s1:Shared} {H:Hp} {E:XK} {us:List Value} {vs:List V}
   (S:zC N ps scope) (hd:A.handled = none) (e0:Env0 P w K mg base A outer s H) (hl:vs.length = ps.length) (r:Vals vs us)
   (x:InCallC s s.heap.objs.size (bindL (envOfC qual scope s.heap.objs.size f cd).kindOf (ps.zip us) fun _ => none) (cellsFrom (s.heap.objs.size + 1) scope.names []) (bindC (envOfC qual scope s.heap.objs.size f cd).kindOf (ps.zip us) fun _ => none) s1) :
   Inv (cxOf CX P w K mg base N qual scope f cd A outer s H E) [] (start N vs) H s1 := by
 have hpl:ps.length <= N.length := by have := congrArg List.length S.pre; rw [List.length_take] at this; omega
 obtain ⟨h1,tk,rfl,hk⟩ := x.done
 have noA:∀ b:Addr,b ∉ (cxOf CX P w K mg base N qual scope f cd A outer s H E).ex := fun b z => absurd (show b ∈ ([]:List Addr) from z) (by simp)
 refine ⟨⟨e0.mod,S.kind,rfl,rfl,Nat.le_refl _,fun y z c h1 h2 => ?_,fun y hy => ?_,fun y c _ h => ?_,fun _ => hd,Around.frames_deeper e0.frames,.inr ⟨rfl,rfl⟩,fun b z => absurd z (noA b),e0.bs,e0.bsz,fun b _ _ => noA b,fun b z => absurd z (noA b),e0.funs,e0.frf⟩,
   rfl,e0.bare,Un.kept hk,⟨_,x.toInCall.ns,fun i y v h1 h2 h3 => ?_⟩,fun y c h => ⟨_,x.cell y c h⟩,e0.hok.fresh (Nat.le_refl _),fun y c h => ?_,fun p hp => absurd (show p ∈ ([]:List (Addr × Obj)) from hp) (by simp),e0.hok.kept hk,?_⟩
 · exact name_of_addr x.apart (PySem.mem_of_lookup h1) (PySem.mem_of_lookup h2)
 · have hy:scope.names.lookup y = some .cell \/ scope.names.lookup y = some .free := hy
   rcases hy with hy | hy
   · exact Ye hy
   · exact absurd rfl (S.nofree _ (PySem.mem_of_lookup hy))
 · exact Nat.le_of_lt (x.above y c (PySem.mem_of_lookup h))
 · have hi:i < vs.length := by
     unfold start at h2
     by_cases hi:i < vs.length
     · exact hi
     · rw [List.getElem?_append_right (by simpa using hi)] at h2
       rw [List.getElem?_replicate] at h2
       split at h2 <;> cases h2
   have ha:vs[i]? = some v := by
     unfold start at h2
     rw [List.getElem?_append_left (by simpa using hi),List.getElem?_map] at h2
     cases e:vs[i]? with
     | none => rw [e] at h2; cases h2
     | some a => rw [e] at h2; cases h2; rfl
   obtain ⟨u,hu,rv⟩ := r.get ha
   have hp:ps[i]? = some y := by
     rw [<- S.pre,List.getElem?_take_of_lt (by omega)]; exact h1
   have ndP:ps.Nodup := by rw [<- S.pre]; exact S.nd.sublist (List.take_sublist _ _)
   refine ⟨u,rv,?_⟩
   rcases S.par y (List.mem_of_getElem? hp) with k | k
   · exact .inl ⟨k,ZC ndP hp hu k⟩
   · obtain ⟨c,e⟩ := Ye (n := s.heap.objs.size + 1) k
     refine .inr ⟨.inl k,c,e,?_⟩
     have q := x.cell y c e
     rw [ZD ndP hp hu (by show scope.names.lookup y ≠ _; rw [k]; decide)] at q
     exact q
 · exact e0.hok.fresh (Nat.le_of_lt (x.above y c (PySem.mem_of_lookup h)))
 · unfold start
   show _ = N.length
   rw [List.length_append,List.length_map,List.length_replicate]
   omega
theorem Z8 {CX:CXT} {P:Program} {w:World} {K:PySem.W.Frag} {mg:Str -> Option Value} {base:Heap} {k:Nat} {f:Addr} {name qual:Str} {params:Arguments} {body:List Stmt} {scope:Scope} {dV kV doc pm cdv ct oc:Value} {an od:Option Addr}
   {osl:Array (Option Value)} {N ps:List Str} {sp:Sp} (lk:K.lookup f = some ⟨oc,od,.func (PySem.W.fnOf name qual params body scope dV kV doc pm an cdv ct),osl⟩) (hcd:PySem.W.codeIn K cdv qual = true) (S:zC N ps scope)
   (len:∀ vs H Q E,sp vs H Q E -> vs.length = ps.length)
   (hbody:∀ (A:Around) (outer:List Env) (s:Shared) (H:Hp) (vs:List V) (Q:VK) (E:XK),Room k (A.deeper (envOfC qual scope s.heap.objs.size f cdv)) -> sp vs H Q E ->
     ∃ t,PSs (cxOf CX P w K mg base N qual scope f cdv A outer s H E) body t /\ t { nx := fun _ H' => Q .non H',rt := Q } (start N vs) H) :
   FnOk P w K mg base CX (k + 1) f (PySem.W.fnOf name qual params body scope dV kV doc pm an cdv ct) ps sp := by
 refine ⟨len,fun A outer s H args us vs Q E hr e0 hb r hsp => ?_⟩
 have hl := len _ _ _ _ hsp
 have KX:K.In s.heap := e0.mod.kin.keeps fun b o e => (e0.bs b o e).1
 have lim:s.heap.NoLimit := e0.mod.nolimit.keeps fun b o e => (e0.bs b o e).1
 have hkind:∀ y ∈ ps.zip us,scope.names.lookup y.1 = some .local \/ (scope.names.lookup y.1 = some .cell /\ ((cellsFrom (s.heap.objs.size + 1) scope.names []).lookup y.1).isSome = true) := fun ⟨n,v⟩ hy => by
   rcases S.par n (List.of_mem_zip hy).1 with q | q
   · exact .inl q
   · exact .inr ⟨q,PySem.W.cellsFrom_some _ _ _ (.inl q)⟩
 refine codeAny_call_function hr.depth (KX _ _ lk) rfl S.co S.gen rfl (PySem.W.codeRec_of KX hcd) (hb _ _ _ _ ?_)
 refine wpAny_newFunctionEnv_cells S.kind hkind fun env he s1 x => ?_
 subst he
 refine ⟨lim.keeps x.toInCall.keep,codeAny_func ?_⟩
 obtain ⟨t,ht,hq⟩ := hbody A outer s H vs Q E (hr.deeper _) hsp
 have I:Inv (cxOf CX P w K mg base N qual scope f cdv A outer s H E) [] (start N vs) H s1 := ZE S hr.hd e0 hl r x
 refine wpAny_mono (ht [] s1 (start N vs) H _ I hq) (fun fl s' hs => ?_) fun e s' hs => hs
 have fin:∀ {σ':St} {H':Hp} {v:V} {u:Value},Inv (cxOf CX P w K mg base N qual scope f cdv A outer s H E) [] σ' H' s' -> RelV v u -> Q v H' -> CE outer P w H s Q u s' :=
   fun {σ' H' v u} J rv q => ⟨v,H',J.os,J.bare,J.base,J.hok,rv,q⟩
 cases fl with
 | ret u =>
   obtain ⟨v,σ',H',J,rv,q⟩ := hs
   exact fin J rv q
 | next =>
   obtain ⟨σ',H',J,q⟩ := hs
   exact fin (v := V.non) (u := Value.none) J rfl q
 | brk =>
   obtain ⟨_,_,_,q⟩ := hs
   exact False.elim q
 | cont =>
   obtain ⟨_,_,_,q⟩ := hs
   exact False.elim q
end _L2
namespace _L2
open PySem PySem.Spec PyProof.Rows
section
variable {X:Cx} {x:Str} {p pos:Pos} {e:Expr} {es:List Expr} {t:TA} {id T:String} {r:List V -> Hp -> VK -> Prop}
noncomputable def tCB (r:List V -> Hp -> VK -> Prop) (t:TA):TE := fun σ H Q => t σ H fun vs H1 => r vs H1 Q
theorem zo (hc:yr X (.builtin id) r) (hg:Gl X x) (hm:X.mg x = none) (hv:bootBuiltins x = some (.builtin id)) (ha:PA X (e :: es) t) (hn:x ≠ "__name__" := by decide) (hdb:(x == ("__debug__" : Str)) = false := by decide)
   (he:starEach (e :: es) X.env = (false,eval e X.env) :: starEach es X.env := by rfl) (hpl:(backTo pos (starEach es X.env)).any (·.1) = false := by rfl):PE X (.Call (.Name x p) (e :: es) [] pos) (tCB r t) := by
 intro pins s σ H Q I h
 refine wpAny_Call_Name_kw (xg I hg hm hv ?_ hn hdb)
 exact PyProof.Rows.callWith_builtin1 (thn (ha pos pins s σ H _ I h) fun us s1 ⟨vs,H1,I1,r1,q1⟩ => hc pins s1 σ H1 vs us Q I1 r1 q1) he hpl
theorem xC (hc:yr X (.type T) r) (hg:Gl X x) (hm:X.mg x = none) (hv:bootBuiltins x = some (.type T)) (ha:PA X (e :: es) t) (hn:x ≠ "__name__" := by decide) (hdb:(x == ("__debug__" : Str)) = false := by decide)
   (he:starEach (e :: es) X.env = (false,eval e X.env) :: starEach es X.env := by rfl) (hpl:(backTo pos (starEach es X.env)).any (·.1) = false := by rfl):PE X (.Call (.Name x p) (e :: es) [] pos) (tCB r t) := by
 intro pins s σ H Q I h
 refine wpAny_Call_Name_kw (xg I hg hm hv ?_ hn hdb)
 exact PyProof.Rows.callWith_type1 (thn (ha pos pins s σ H _ I h) fun us s1 ⟨vs,H1,I1,r1,q1⟩ => hc pins s1 σ H1 vs us Q I1 r1 q1) he hpl
end
end _L2
namespace _HT
open PySem PyProof.Rows
section
variable {prog:Program} {w:World} {A:Around} {E:Value -> Shared -> Prop} {s:Shared}
noncomputable def sIx (n d:Nat):Option Int -> Nat
 | none => d
 | some v => if v < 0 then (v + (n:Int)).toNat else min v.toNat n
theorem Yf (n d:Nat):sIx n d none = d := rfl
theorem qW (n d k:Nat):sIx n d (some (k:Int)) = min k n := by
 show (if (k:Int) < 0 then ((k:Int) + (n:Int)).toNat else min (k:Int).toNat n) = min k n
 rw [if_neg (by omega),Int.toNat_natCast]
end
end _HT
namespace _L2
open PySem PySem.Spec PyProof.Rows
abbrev TO := St -> Hp -> (Option Int -> Hp -> Prop) -> Prop
noncomputable def PO (X:Cx) (e:Option Expr) (t:TO):Prop :=
 ∀ (pins:List (Addr × Obj)) (s:Shared) (σ:St) (H:Hp) (Q:Option Int -> Hp -> Prop),Inv X pins σ H s -> t σ H Q ->
   wpAny (model X.prog X.w) X.A (evalPart e X.env) (fun u s' => ∃ o H',Inv X pins σ H' s' /\ IsPart u o /\ Q o H') X.xe s
noncomputable def Xs:TO := fun _ H Q => Q none H
noncomputable def Jk (t:TE):TO := fun σ H Q => t σ H fun x H1 => ∃ i,x = .int i /\ Q (some i) H1
section
variable {X:Cx} {e:Expr} {te:TE} {lo hi:Option Expr} {tl th:TO} {pos p2:Pos}
theorem y7:PO X none Xs := by
 intro pins s σ H Q I h
 rw [evalPart_none]
 exact wpAny_pure ⟨none,H,I,.none,h⟩
theorem yc (h:PE X e te):PO X (some e) (Jk te) := by
 intro pins s σ H Q I hw
 rw [evalPart_some]
 refine thn (h pins s σ H _ I hw) fun u s1 h9 => ?_
 obtain ⟨x,H1,I1,r1,q1⟩ := h9
 obtain ⟨i,rfl,q⟩ := q1
 obtain ⟨t,rfl⟩ := r1
 exact ⟨some i,H1,I1,.int i t,q⟩
noncomputable def SlR (X:Cx) (r:V -> Option Int -> Option Int -> Hp -> VK -> Prop):Prop :=
 ∀ (pins:List (Addr × Obj)) (s:Shared) (σ:St) (H:Hp) (x:V) (v vl vu:Value) (lo hi:Option Int) (sl:Addr) (Q:VK),Inv X pins σ H s -> RelV x v -> s.heap.IsSliceOf sl vl vu .none -> IsPart vl lo -> IsPart vu hi -> r x lo hi H Q ->
   ∃ T id,typeLookup (.type T) "__getitem__" = pure (some (.builtin id)) /\ s.TypeIs v T /\ wpAny (model X.prog X.w) X.A (getItem v (.ref sl)) (EP X pins σ Q) X.xe s
noncomputable def tSl (r:V -> Option Int -> Option Int -> Hp -> VK -> Prop) (te:TE) (tl th:TO):TE := fun σ H Q => te σ H fun x H1 => tl σ H1 fun l H2 => th σ H2 fun u H3 => r x l u H3 Q
theorem yg {r:V -> Option Int -> Option Int -> Hp -> VK -> Prop} (hr:SlR X r) (he:PE X e te) (hl:PO X lo tl) (hu:PO X hi th):PE X (.Subscript e (.Slice lo hi none p2) pos) (tSl r te tl th) := by
 intro pins s σ H Q I h
 refine Subscript_ (thn (he pins s σ H _ I h) fun v s1 h9 => ?_)
 obtain ⟨x,H1,I1,r1,q1⟩ := h9
 refine wpAny_Slice (thn (hl pins s1 σ H1 _ I1 q1) fun vl s2 ⟨l,H2,I2,pl,q2⟩ => thn (hu pins s2 σ H2 _ I2 q2) fun vu s3 h9 => ?_)
 obtain ⟨u,H3,I3,pu,q3⟩ := h9
 rw [evalPart_none]
 refine wpAny_pure ?_
 have I4:Inv X pins σ H3 { s3 with heap := s3.heap.push { cls := .type "slice",data := .fields #[vl,vu,.none] } } := I3.kept (t' := s3.toks) fun b ob q => Heap.get?_push_of_some _ q
 obtain ⟨T,id,hT,ht,hg⟩ := hr pins { s3 with heap := s3.heap.push { cls := .type "slice",data := .fields #[vl,vu,.none] } } σ H3 x v vl vu l u s3.heap.objs.size Q I4 r1 (Heap.IsSliceOf.new ..) pl pu q3
 show wpAny (model X.prog X.w) X.A (subscriptTail e (.Slice lo hi none p2) v (.ref s3.heap.objs.size)) (EP X pins σ Q) X.xe { s3 with heap := s3.heap.push { cls := .type "slice",data := .fields #[vl,vu,.none] } }
 exact tail_any (ops := [.ref s3.heap.objs.size,v]) ht hT hg (by with_unfolding_all rfl)
noncomputable def cutV (xs:List V) (lo hi:Option Int):List V := (xs.drop (_HT.sIx xs.length 0 lo)).take (_HT.sIx xs.length xs.length hi - _HT.sIx xs.length 0 lo)
theorem yS (xs:List V) (lo hi:Option Int):(cutV xs lo hi).length <= xs.length := by
 unfold cutV
 rw [List.length_take,List.length_drop]
 omega
end
end _L2
namespace _L2
open PySem PySem.Spec PyProof.Rows
noncomputable def ixN (n:Nat) (i:Int):Option Nat := if 0 <= i then (if i < n then some i.toNat else none) else if -(n:Int) <= i then some (i + n).toNat else none
noncomputable def atI {α:Type} (xs:List α) (i:Int):Option α := (ixN xs.length i).bind fun j => xs[j]?
theorem Xt {n:Nat} {i:Int} {j:Nat} (h:ixN n i = some j):seqIndex? i n = some j /\ j < n /\ -(n:Int) <= i /\ i < n := by
 unfold ixN at h
 by_cases h0:0 <= i
 · rw [if_pos h0] at h
   by_cases h1:i < n
   · rw [if_pos h1] at h
     have e:i.toNat = j := Option.some.inj h
     exact ⟨by rw [seqIndex_of h0 h1,e],by omega,by omega,h1⟩
   · rw [if_neg h1] at h; cases h
 · rw [if_neg h0] at h
   by_cases h1:-(n:Int) <= i
   · rw [if_pos h1] at h
     have e:(i + n).toNat = j := Option.some.inj h
     exact ⟨by rw [seqIndex_neg (by omega) h1,e],by omega,h1,by omega⟩
   · rw [if_neg h1] at h; cases h
theorem Zb {α:Type} {xs:List α} {i:Int} {v:α} (h:atI xs i = some v):∃ j,seqIndex? i xs.length = some j /\ xs[j]? = some v /\ j < xs.length /\ -(xs.length:Int) <= i /\ i < xs.length := by
 unfold atI at h
 cases e:ixN xs.length i with
 | none => rw [e] at h; cases h
 | some j =>
   rw [e] at h
   obtain ⟨h1,h2,h3,h4⟩ := Xt e
   exact ⟨j,h1,h,h2,h3,h4⟩
theorem zH {α:Type} {xs:List α} {j:Nat} {v:α} (h:xs[j]? = some v):atI xs (j:Int) = some v := by
 have hj:j < xs.length := (List.getElem?_eq_some_iff.mp h).1
 have e:ixN xs.length (j:Int) = some j := by
   unfold ixN
   rw [if_pos (by omega),if_pos (by omega)]; simp
 unfold atI; rw [e]; exact h
theorem jA {α:Type} (xs:List α) (v:α):atI (xs ++ [v]) (-1) = some v := by
 have hl:(xs ++ [v]).length = xs.length + 1 := by simp
 have e:ixN (xs ++ [v]).length (-1) = some xs.length := by
   unfold ixN
   rw [hl,if_neg (by decide),if_pos (by omega)]
   congr 1
   omega
 unfold atI
 rw [e]
 show (xs ++ [v])[xs.length]? = some v
 simp
noncomputable def Jq (b:Expr):Prop := ∀ o i,subscripted b false o i = operate [o,i] (getItem o i)
noncomputable def IxR (X:Cx) (r:R2):Prop :=
 ∀ (value slice:Expr) (pins:List (Addr × Obj)) (s:Shared) (σ:St) (H:Hp) (x y:V) (v u:Value) (Q:VK),Inv X pins σ H s -> RelV x v -> RelV y u -> r x y H Q ->
   subscripted slice false v u = operate [v,u] (getItem v u) -> wpAny (model X.prog X.w) X.A (subscriptTail value slice v u) (EP X pins σ Q) X.xe s
noncomputable def MtR (X:Cx) (id:String) (r:V -> List V -> Hp -> VK -> Prop):Prop :=
 ∀ (pins:List (Addr × Obj)) (s:Shared) (σ:St) (H:Hp) (x:V) (xs:List V) (v:Value) (us:List Value) (Q:VK),Inv X pins σ H s -> RelV x v -> Vals xs us -> r x xs H Q ->
   wpAny (model X.prog X.w) X.A (call (.builtin id) (v :: us)) (EP X pins σ Q) X.xe s
section
variable {X:Cx} {a b:Expr} {ta tb:TE} {pos:Pos}
theorem zn {r:R2} (hr:IxR X r) (ha:PE X a ta) (hb:PE X b tb) (hs:Jq b):PE X (.Subscript a b pos) (tOp r ta tb) := by
 intro pins s σ H Q I h
 exact Subscript_ (binT ha hb I h fun v u s2 x y H2 I2 rx ry q => hr a b pins s2 σ H2 x y v u Q I2 rx ry q (hs _ _))
noncomputable def rIxL (K:PySem.W.Frag):R2 := fun x y H Q => ∃ p xs i v,x = .ref p /\ y = .int i /\ SqL K H p xs /\ atI xs i = some v /\ Q v H
noncomputable def rIxT (K:PySem.W.Frag):R2 := fun x y H Q => ∃ p xs i v,x = .ref p /\ y = .int i /\ SqT K H p xs /\ atI xs i = some v /\ Q v H
noncomputable def rIxS:R2 := fun x y H Q => ∃ z i c,x = .str z /\ y = .int i /\ z.length <= sizeLine /\ atI z.cps.toList i = some c /\ Q (.str ⟨#[c]⟩) H
theorem zv:IxR X (rIxL X.K) := by
 intro value slice pins s σ H x y v u Q I rx ry h hs
 obtain ⟨p,xs,i,z,rfl,rfl,hq,he,q⟩ := h
 cases rx
 obtain ⟨t,rfl⟩ := ry
 obtain ⟨its,r,pl,hz⟩ := I.list hq
 obtain ⟨j,h1,h2,h3,h4,h5⟩ := Zb he
 obtain ⟨w,ew,rw'⟩ := r.get h2
 have hl := r.length
 have hn := wR
 have fin:EP X pins σ Q w s := ⟨z,H,I,rw',q⟩
 by_cases h0:0 <= i
 · have hj:i.toNat = j := by
     rw [seqIndex_of h0 h5] at h1
     exact Option.some.inj h1
   exact item_listR pl.isList h0 (by omega) (by rw [hj]; simpa using ew) fin hs
 · have hj:(i + (its.toArray.size:Int)).toNat = j := by
     rw [seqIndex_neg (by omega) h4] at h1
     rw [List.size_toArray,<- hl]
     exact Option.some.inj h1
   exact subscriptTail_builtinR (x := w) pl.isList.typeIs slot_list_getitem.lookup
     (wpAny_getItem_list_neg (Q := fun r s' => r = w /\ EP X pins σ Q r s') pl.isList (by omega) (by rw [List.size_toArray] <;> omega) (by omega) (by rw [hj]; simpa using ew) ⟨rfl,fin⟩) hs
theorem zK:IxR X (rIxT X.K) := by
 intro value slice pins s σ H x y v u Q I rx ry h hs
 obtain ⟨p,xs,i,z,rfl,rfl,hq,he,q⟩ := h
 cases rx
 obtain ⟨t,rfl⟩ := ry
 obtain ⟨its,r,pl,hz⟩ := I.tuple hq
 obtain ⟨j,h1,h2,h3,h4,h5⟩ := Zb he
 obtain ⟨w,ew,rw'⟩ := r.get h2
 have hl := r.length
 have hn := wR
 have fin:EP X pins σ Q w s := ⟨z,H,I,rw',q⟩
 exact subscriptTail_builtinR (x := w) pl.typeIs slot_tuple_getitem.lookup
   (getItem_tuple (j := j) (Q := fun r s' => r = w /\ EP X pins σ Q r s') pl (by omega) (by omega) (by rw [List.size_toArray,<- hl]; exact h1) (by simpa using ew) ⟨rfl,fin⟩) hs
theorem zam:IxR X rIxS := by
 intro value slice pins s σ H x y v u Q I rx ry h hs
 obtain ⟨z,i,c,rfl,rfl,hz,he,q⟩ := h
 obtain ⟨t,rfl⟩ := rx
 obtain ⟨t',rfl⟩ := ry
 obtain ⟨j,h1,h2,h3,h4,h5⟩ := Zb he
 have hl:z.cps.toList.length = z.length := by simp [Str.length]
 rw [hl] at h1 h4 h5
 have hn := wR
 exact tail_any (typeIs_str s z t) slot_str_getitem.lookup (getItem_str (c := c) (by
   have e1:decide (i < -(2 ^ 63:Int)) = false := decide_eq_false (by omega)
   have e2:decide (i ≥ 2 ^ 63) = false := decide_eq_false (by omega)
   rw [e1,e2,Bool.or_false]) (by rw [h1]; simpa using h2) ⟨.str ⟨#[c]⟩,H,I.tok _,⟨_,rfl⟩,q⟩) hs
theorem XO (its:List Value) (n j:Nat) (u:Value):Obj.mapSeq (·.setIfInBounds j u) { cls := .type "list",data := .seq its.toArray n } = { cls := .type "list",data := .seq (its.set j u).toArray n } := by
 simp [Obj.mapSeq]
theorem Inv.lst {pins:List (Addr × Obj)} {σ:St} {H:Hp} {s:Shared} {p:Addr} {xs:List V} (I:Inv X pins σ H s) (h:H p = some (.lst xs)) :
   ∃ (its:List Value) (n:Nat),Vals xs its /\ s.heap.get? p = some { cls := .type "list",data := .seq its.toArray n } /\ xs.length <= sizeLine := by
 obtain ⟨z,its,n,r,e⟩ := I.hok p _ h
 exact ⟨its,n,r,e,z⟩
theorem Inv.lstUpd {pins:List (Addr × Obj)} {σ:St} {H:Hp} {s:Shared} {p:Addr} {xs ys:List V} {its its':List Value} {n n':Nat} {f:Obj -> Obj} (I:Inv X pins σ H s) (h:H p = some (.lst xs))
   (ho:s.heap.get? p = some { cls := .type "list",data := .seq its.toArray n }) (hf:f { cls := .type "list",data := .seq its.toArray n } = { cls := .type "list",data := .seq its'.toArray n' }) (r:Vals ys its') (hz:ys.length <= sizeLine) (t:Nat) :
   Inv X pins σ (upd H p (.lst ys)) { s with heap := s.heap.update p f,toks := t } := by
 have e:(s.heap.update p f).get? p = some { cls := .type "list",data := .seq its'.toArray n' } := by
   rw [Heap.get?_update_self f ho (by rw [hf] <;> rfl),hf]
 refine I.write (x := p) (e := p) (by rw [h]; trivial) (.inl rfl) (fun b u hb q => (Heap.get?_update_other _ _ (Ne.symm hb)).trans q) ⟨_,e⟩ ?_
 exact ⟨hz,its',n',r,e⟩
noncomputable def za3:V -> V -> V -> Hp -> (Hp -> Prop) -> Prop := fun o i v H Q => ∃ p xs k j,o = .ref p /\ i = .int k /\ H p = some (.lst xs) /\ ixN xs.length k = some j /\ Q (upd H p (.lst (xs.set j v)))
theorem set_list:PSet X za3 := by
 intro pins s σ H o i v ov iv u Q I ro ri rv h
 obtain ⟨p,xs,k,j,rfl,rfl,hp,hj,q⟩ := h
 cases ro
 obtain ⟨t,rfl⟩ := ri
 obtain ⟨its,n,r,ho,hz⟩ := I.lst hp
 obtain ⟨h1,h2,h3,h4⟩ := Xt hj
 have hl := r.length
 have hn := wR
 have I':Inv X pins σ (upd H p (.lst (xs.set j v))) { s with heap := s.heap.update p (Obj.mapSeq (·.setIfInBounds j u)) } :=
   I.lstUpd hp ho (XO its n j u) (r.set rv j) (by rw [List.length_set]; exact hz) s.toks
 by_cases h0:0 <= k
 · have hk:k.toNat = j := by
     rw [seqIndex_of h0 h4] at h1
     exact Option.some.inj h1
   exact PySem.W.ki_setAt ho h0 (by omega) (by rw [List.size_toArray,<- hl]; exact h4) (by rw [hk]; exact ⟨_,I',q⟩)
 · have hk:(k + (its.toArray.size:Int)).toNat = j := by
     rw [seqIndex_neg (by omega) h3] at h1
     rw [List.size_toArray,<- hl]
     exact Option.some.inj h1
   exact PySem.W.ki_setBack ho (by omega) (by rw [List.size_toArray,<- hl]; exact h3) (by omega) (by rw [hk]; exact ⟨_,I',q⟩)
theorem Yg (lo hi:Option Int) (n:Nat):(sliceBounds lo hi none n).1 = ((_HT.sIx n 0 lo:Nat):Int) /\ (sliceBounds lo hi none n).2.1 = ((_HT.sIx n n hi:Nat):Int) /\ (sliceBounds lo hi none n).2.2 = 1 := by
 refine ⟨?_,?_,rfl⟩
 · cases lo with
   | none => simp [sliceBounds,_HT.sIx]
   | some i =>
     simp only [sliceBounds,_HT.sIx,Option.getD_none,show (1:Int) > 0 by decide,if_true]
     by_cases h:i < 0
     · simp only [h,if_true] <;> omega
     · simp only [h,if_false] <;> omega
 · cases hi with
   | none => simp [sliceBounds,_HT.sIx]
   | some i =>
     simp only [sliceBounds,_HT.sIx,Option.getD_none,show (1:Int) > 0 by decide,if_true]
     by_cases h:i < 0
     · simp only [h,if_true] <;> omega
     · simp only [h,if_false] <;> omega
theorem Z2 (its:List Value) (lo hi:Option Int):slicePick its.toArray lo hi none = ((its.drop (_HT.sIx its.length 0 lo)).take (_HT.sIx its.length its.length hi - _HT.sIx its.length 0 lo)).toArray := by
 obtain ⟨h1,h2,h3⟩ := Yg lo hi its.toArray.size
 unfold slicePick
 rw [h1,h2,h3]
 simp only [sliceRange_one,pick_run,List.size_toArray] <;> rfl
noncomputable def rSlL (K:PySem.W.Frag):V -> Option Int -> Option Int -> Hp -> VK -> Prop := fun x lo hi H Q => ∃ a xs,x = .ref a /\ SqL K H a xs /\ ∀ p,H p = none -> Q (.ref p) (upd H p (.lst (cutV xs lo hi)))
theorem xN:SlR X (rSlL X.K) := by
 intro pins s σ H x v vl vu lo hi sl Q I rx hs pl pu h
 obtain ⟨a,xs,rfl,hx,q⟩ := h
 cases rx
 obtain ⟨its,r,ht,hz⟩ := I.list hx
 have hlen := r.length
 refine ⟨"list",_,slot_list_getitem.lookup,ht.isList.typeIs,?_⟩
 refine wpAny_getItem_list_slice ht.isList hs pl pu .none (by simp) ?_ (by rw [List.size_toArray] <;> omega)
 rw [Z2,<- hlen]
 refine ⟨.ref s.heap.objs.size,_,I.laid (t' := s.toks) (o := .lst (cutV xs lo hi)) (fun b ob q => Heap.get?_push_of_some _ q) (Nat.le_refl _) ?_,rfl,q _ (I.hok.fresh (Nat.le_refl _))⟩
 exact ⟨Nat.le_trans (yS xs lo hi) hz,_,0,(r.drop (_HT.sIx xs.length 0 lo)).take (_HT.sIx xs.length xs.length hi - _HT.sIx xs.length 0 lo),Heap.get?_push_size _ rfl⟩
noncomputable def wj:V -> Bool
 | .non => true
 | .bl _ => true
 | .int _ => true
 | .str _ => true
 | _ => false
noncomputable def eqV:V -> V -> Bool
 | .non,.non => true
 | .bl a,.bl b => a == b
 | .bl a,.int b => (if a then 1 else 0) == b
 | .int a,.bl b => a == (if b then 1 else 0)
 | .int a,.int b => a == b
 | .str a,.str b => a == b
 | _,_ => false
theorem Wv {A:Around} {s:Shared} {y x:V} {u v:Value} (ry:RelV y u) (rx:RelV x v) (fy:wj y = true) (fx:wj x = true):SeqAt.EqAt A s u v (eqV y x) := by
 cases y with
 | non =>
   cases ry
   cases x with
   | non => cases rx; exact SeqAt.EqAt.same _
   | bl b => cases rx; exact SeqAt.EqAt.none_bool b
   | int b => obtain ⟨t,rfl⟩ := rx; exact SeqAt.EqAt.none_int b t
   | str b => obtain ⟨t,rfl⟩ := rx; exact SeqAt.EqAt.none_str b t
   | _ => exact absurd (show false = true from fx) Bool.false_ne_true
 | bl a =>
   cases ry
   cases x with
   | non => cases rx; exact SeqAt.EqAt.bool_none a
   | bl b => cases rx; exact SeqAt.EqAt.bool_bool a b
   | int b => obtain ⟨t,rfl⟩ := rx; exact SeqAt.EqAt.bool_int a b t
   | str b => obtain ⟨t,rfl⟩ := rx; exact SeqAt.EqAt.bool_str a b t
   | _ => exact absurd (show false = true from fx) Bool.false_ne_true
 | int a =>
   obtain ⟨t',rfl⟩ := ry
   cases x with
   | non => cases rx; exact SeqAt.EqAt.int_none a t'
   | bl b => cases rx; exact SeqAt.EqAt.int_bool a t' b
   | int b => obtain ⟨t,rfl⟩ := rx; exact SeqAt.EqAt.int_int a t' b t
   | str b => obtain ⟨t,rfl⟩ := rx; exact SeqAt.EqAt.int_str a t' b t
   | _ => exact absurd (show false = true from fx) Bool.false_ne_true
 | str a =>
   obtain ⟨t',rfl⟩ := ry
   cases x with
   | non => cases rx; exact SeqAt.EqAt.str_none a t'
   | bl b => cases rx; exact SeqAt.EqAt.str_bool a t' b
   | int b => obtain ⟨t,rfl⟩ := rx; exact SeqAt.EqAt.str_int a t' b t
   | str b => obtain ⟨t,rfl⟩ := rx; exact SeqAt.EqAt.str_str a t' b t
   | _ => exact absurd (show false = true from fx) Bool.false_ne_true
 | _ => exact absurd (show false = true from fy) Bool.false_ne_true
theorem zI:yr X (.builtin "len") (fun xs H Q => ∃ p ys,xs = [.ref p] /\ (SqL X.K H p ys \/ SqT X.K H p ys) /\ Q (.int ys.length) H) := by
 intro pins s σ H xs us Q I r h
 obtain ⟨p,ys,rfl,hq,q⟩ := h
 obtain ⟨u,rfl,rx⟩ := vals1 r
 cases rx
 have hn := wR
 rcases hq with hq | hq
 · obtain ⟨its,r',pl,hz⟩ := I.list hq
   have hlen := r'.length
   exact Calls.call_len_list pl.isList (by simp only [List.size_toArray] <;> omega) ⟨.int ys.length,H,I.tok _,⟨s.toks + 1,by rw [List.size_toArray,hlen]⟩,q⟩
 · obtain ⟨its,r',pl,hz⟩ := I.tuple hq
   have hlen := r'.length
   exact len_tuple pl (by simp only [List.size_toArray] <;> omega) ⟨.int ys.length,H,I.tok _,⟨s.toks + 1,by rw [List.size_toArray,hlen]⟩,q⟩
theorem yd:yr X (.builtin "len") (fun xs H Q => ∃ z,xs = [.str z] /\ z.length <= sizeLine /\ Q (.int z.length) H) := by
 intro pins s σ H xs us Q I r h
 obtain ⟨z,rfl,hz,q⟩ := h
 obtain ⟨u,rfl,t,rfl⟩ := vals1 r
 have hn := wR
 exact len_str (by omega) ⟨.int z.length,H,I.tok _,⟨_,rfl⟩,q⟩
theorem qC:yr X (.type "list") (fun xs H Q => ∃ p ys,xs = [.ref p] /\ (SqL X.K H p ys \/ SqT X.K H p ys) /\ ∀ l,H l = none -> Q (.ref l) (upd H l (.lst ys))) := by
 intro pins s σ H xs us Q I r h
 obtain ⟨p,ys,rfl,hq,q⟩ := h
 obtain ⟨u,rfl,rx⟩ := vals1 r
 cases rx
 have fin:∀ (its:List Value),Vals ys its -> ys.length <= sizeLine -> ∀ (h':Heap) (c':Nat),(∀ b o',s.heap.get? b = some o' -> h'.get? b = some o') ->
     h'.get? s.heap.objs.size = some { cls := .type "list",dict := none,data := .seq its.toArray c',slots := #[] } -> EP X pins σ Q (.ref s.heap.objs.size) { s with heap := h' } := fun its r' hz h' c' kp e =>
   ⟨.ref s.heap.objs.size,_,I.laid (t' := s.toks) kp (Nat.le_refl _) (show z7 X.prog X.w _ h' _ (.lst ys) from ⟨hz,its,c',r',e⟩),rfl,q _ (I.hok.fresh (Nat.le_refl _))⟩
 rcases hq with hq | hq
 · obtain ⟨its,r',pl,hz⟩ := I.list hq
   have hlen := r'.length
   obtain ⟨o,ho,hc,n,hd⟩ := pl.isList
   exact call_list_seq p (.inl rfl) ho hc hd (fun h' c' kp e => fin its r' hz h' c' kp e) (by simp only [List.size_toArray] <;> omega)
 · obtain ⟨its,r',pl,hz⟩ := I.tuple hq
   have hlen := r'.length
   obtain ⟨o,ho,hc,n,hd⟩ := pl
   exact call_list_seq p (.inr rfl) ho hc hd (fun h' c' kp e => fin its r' hz h' c' kp e) (by simp only [List.size_toArray] <;> omega)
theorem qu:yr X (.type "tuple") (fun xs H Q => ∃ p ys,xs = [.ref p] /\ ((SqL X.K H p ys /\ ∀ l,H l = none -> Q (.ref l) (upd H l (.tup ys))) \/ (SqT X.K H p ys /\ Q (.ref p) H))) := by
 intro pins s σ H xs us Q I r h
 obtain ⟨p,ys,rfl,h⟩ := h
 obtain ⟨u,rfl,rx⟩ := vals1 r
 cases rx
 rcases h with ⟨hq,q⟩ | ⟨hq,q⟩
 · obtain ⟨its,r',pl,hz⟩ := I.list hq
   have hlen := r'.length
   refine call_tuple_list pl.isList (fun h' kp => ?_) (by simp only [List.size_toArray] <;> omega)
   have I1:Inv X pins σ H { s with heap := h' } := I.kept (t' := s.toks) kp
   have I2:Inv X pins σ (upd H h'.objs.size (.tup ys)) { s with heap := h'.push { cls := .type "tuple",data := .seq its.toArray } } :=
     I1.laid (t' := s.toks) (fun b o e => Heap.get?_push_of_some _ e) (Nat.le_refl _) (show z7 X.prog X.w _ _ _ (.tup ys) from ⟨hz,its,r',IsTup.new _ _⟩)
   exact ⟨.ref h'.objs.size,_,I2,rfl,q _ (I1.hok.fresh (Nat.le_refl _))⟩
 · obtain ⟨its,r',pl,hz⟩ := I.tuple hq
   exact call_tuple_same pl ⟨.ref p,H,I,rfl,q⟩
noncomputable def tyV (K:PySem.W.Frag) (T:String) (x:V) (H:Hp):Prop := match x with
 | .str _ => T = "str"
 | .int _ => T = "int"
 | .ref p => (T = "list" /\ ∃ xs,SqL K H p xs) \/ (T = "tuple" /\ ∃ o,K.lookup p = some o /\ o.cls = .type "tuple" /\ o.dict = none) \/
     (T = "dict" /\ ((∃ kvs,H p = some (.dK kvs)) \/ ∃ kvs,H p = some (.dT kvs))) \/ (T = "set" /\ ∃ S n,H p = some (.set S n))
 | _ => False
theorem zan {pins:List (Addr × Obj)} {σ:St} {H:Hp} {s:Shared} {T:String} {x:V} {v:Value} (I:Inv X pins σ H s) (r:RelV x v) (ty:tyV X.K T x H) :
   s.TypeIs v T /\ ∀ a,v = .ref a -> ∃ ob,s.heap.get? a = some ob /\ ob.dict = none := by
 cases x with
 | str z =>
   obtain ⟨t,rfl⟩ := r
   cases (show T = "str" from ty)
   exact ⟨typeIs_str s z t,fun _ e => nomatch e⟩
 | int i =>
   obtain ⟨t,rfl⟩ := r
   cases (show T = "int" from ty)
   exact ⟨typeIs_int s i t,fun _ e => nomatch e⟩
 | ref p =>
   cases r
   rcases ty with ⟨rfl,xs,hq⟩ | ⟨rfl,o,hk,hc,hd⟩ | ⟨rfl,hk⟩ | ⟨rfl,S,n,hk⟩
   · obtain ⟨its,_,pl,_⟩ := I.list hq
     refine ⟨pl.isList.typeIs,fun a e => ?_⟩
     cases e
     obtain ⟨o,n,e,c,hd,_⟩ := pl
     exact ⟨o,e,hd⟩
   · refine ⟨⟨o,I.kIn p o hk,hc⟩,fun a e => ?_⟩
     cases e
     exact ⟨o,I.kIn _ o hk,hd⟩
   · have z:∃ o,s.heap.get? p = some o /\ o.ExactDict := by
       rcases hk with ⟨kvs,hk⟩ | ⟨kvs,hk⟩
       · obtain ⟨_,_,_,_,o,_,_,e,ex,_⟩ := I.hok p _ hk
         exact ⟨o,e,ex⟩
       · obtain ⟨_,_,_,_,o,_,_,e,ex,_⟩ := I.hok p _ hk
         exact ⟨o,e,ex⟩
     obtain ⟨o,e,ex⟩ := z
     refine ⟨⟨o,e,ex.1⟩,fun a e2 => ?_⟩
     cases e2
     exact ⟨o,e,ex.2.1⟩
   · obtain ⟨o,_,_,_,e,ex,_⟩ := I.hok p _ hk
     refine ⟨⟨o,e,ex.1⟩,fun a e2 => ?_⟩
     cases e2
     exact ⟨o,e,ex.2.1⟩
 | _ => exact False.elim ty
noncomputable def tBM (K:PySem.W.Frag) (T:String) (r:V -> List V -> Hp -> VK -> Prop) (to:TE) (t:TA):TE := fun σ H Q => to σ H fun x H1 => tyV K T x H1 /\ t σ H1 fun xs H2 => r x xs H2 Q
variable {o e:Expr} {es:List Expr} {to:TE} {t:TA} {name:Str} {apos cpos:Pos} {T id:String} {r:V -> List V -> Hp -> VK -> Prop}
theorem xc (pa:PlainAttrs T) (slot:Slot T name id) (hty:typeOf (.builtin id) = pure (.type "method_descriptor")) (hm:MtR X id r) (ho:PE X o to) (ha:PA X (e :: es) t)
   (hbase:attributeBase o name X.env (eval o X.env) = eval o X.env := by rfl)
   (hfew:((backTo cpos (starEach (e :: es) X.env)).all (fun x => !x.1) && (backToKw cpos (keywordEach [] X.env)).all (fun x => x.1.isSome)
     && decide ((e :: es).length + ([]:List Keyword).length + (if ([]:List Keyword).isEmpty then 0 else 1) < 30)) = true := by rfl)
   (hline:(apos.endLine == cpos.line) = true := by rfl) (hs:starEach (e :: es) X.env = (false,eval e X.env) :: starEach es X.env := by rfl) (hplain:(backTo cpos (starEach es X.env)).any (·.1) = false := by rfl) :
   PE X (.Call (.Attribute o name apos) (e :: es) [] cpos) (tBM X.K T r to t) := by
 intro pins s σ H Q I h
 refine wpAny_Call_method_late hbase hfew hline rfl (thn (ho pins s σ H _ I h) fun v s1 h9 => ?_)
 obtain ⟨x,H1,I1,r1,ty,q1⟩ := h9
 obtain ⟨h1,h2⟩ := zan I1 r1 ty
 refine ⟨T,id,pa,slot,hty,h1,h2,?_⟩
 have hA := ha cpos pins s1 σ H1 _ I1 q1
 rw [hs] at hA ⊢
 refine Calls.callWith_builtin (by show (false || (backTo cpos (starEach es X.env)).any (·.1)) = false; rw [hplain] <;> rfl) (Calls.evalArgs_plain ?_)
 exact thn hA fun us s2 ⟨vs,H2,I2,r2,q2⟩ => hm pins s2 σ H2 x vs v us Q I2 r1 r2 q2
end
end _L2
namespace _L2
open PySem PySem.Spec PyProof.Rows
noncomputable def MtM (X:Cx) (id:String) (r:V -> List V -> Hp -> VK -> Prop):Prop :=
 ∀ (pins:List (Addr × Obj)) (s:Shared) (σ:St) (H:Hp) (x:V) (xs:List V) (v:Value) (us:List Value) (Q:VK),Inv X pins σ H s -> RelV x v -> Vals xs us -> r x xs H Q ->
   wpAny (model X.prog X.w) X.A (call (.builtin id) (v :: us)) (EP X pins σ Q) X.xe s
theorem Vals.one:∀ {x:V} {us:List Value},Vals [x] us -> ∃ u,us = [u] /\ RelV x u
 | _,_,.cons r .nil => ⟨_,rfl,r⟩
theorem Vals.rep {xs:List V} {us:List Value} (h:Vals xs us):∀ k:Nat,Vals (List.replicate k xs).flatten (List.replicate k us).flatten
 | 0 => .nil
 | k + 1 => by
   rw [List.replicate_succ,List.replicate_succ,List.flatten_cons,List.flatten_cons]
   exact Vals.append h (Vals.rep h k)
theorem foldl_rep (its:List Value):∀ (k:Nat) (acc:List Value),
   List.foldl (fun x1 x2 => x1 ++ x2) acc.toArray (List.replicate k its.toArray) = (acc ++ (List.replicate k its).flatten).toArray
 | 0,acc => by simp
 | k + 1,acc => by
   have e:acc.toArray ++ its.toArray = (acc ++ its).toArray := by simp
   have e2:(acc ++ its) ++ (List.replicate k its).flatten = acc ++ (List.replicate (k + 1) its).flatten := by
     rw [List.replicate_succ,List.flatten_cons,List.append_assoc]
   rw [<- e2,<- foldl_rep its k (acc ++ its),<- e,List.replicate_succ,List.foldl_cons]
section
variable {X:Cx} {pins:List (Addr × Obj)} {σ:St} {H:Hp} {s:Shared} {l b:Addr} {xs ys zs:List V}
theorem Inv.lset {its its':List Value} {n:Nat} {f:Array Value -> Array Value} {t':Nat} (I:Inv X pins σ H s) (hH:H l = some (.lst xs))
   (e:s.heap.get? l = some { cls := .type "list",data := .seq its.toArray n }) (hf:f its.toArray = its'.toArray) (hv:Vals ys its') (hz:ys.length <= sizeLine) :
   Inv X pins σ (upd H l (.lst ys)) { s with heap := s.heap.update l (Obj.mapSeq f),toks := t' } := by
 have q := PySem.IsL.update e f
 rw [hf] at q
 refine I.write (x := l) (e := l) (by rw [hH]; exact trivial) (.inl rfl) (fun b' u hb hu => (Heap.get?_update_other s.heap (Obj.mapSeq f) (Ne.symm hb)).trans hu) ⟨_,q⟩ ?_
 exact ⟨hz,its',_,hv,q⟩
theorem Inv.lnew {its:List Value} {t':Nat} (I:Inv X pins σ H s) (hv:Vals ys its) (hz:ys.length <= sizeLine) :
   Inv X pins σ (upd H s.heap.objs.size (.lst ys)) { s with heap := s.heap.push { cls := .type "list",data := .seq its.toArray },toks := t' } :=
 I.laid (fun _ _ q => Heap.get?_push_of_some _ q) (Nat.le_refl _) ⟨hz,its,0,hv,Heap.get?_push_size _ rfl⟩
theorem Inv.fresh (I:Inv X pins σ H s):H s.heap.objs.size = none := I.hok.fresh (Nat.le_refl _)
theorem Inv.lstM (I:Inv X pins σ H s) (hH:H l = some (.lst xs)):xs.length <= sizeLine /\ ∃ (its:List Value) (n:Nat),Vals xs its /\ xs.length = its.length /\ s.heap.get? l = some { cls := .type "list",data := .seq its.toArray n } := by
 obtain ⟨z,its,n,r,e⟩ := I.hok l _ hH
 exact ⟨z,its,n,r,r.length,e⟩
theorem QE {n:Nat} (h:n <= sizeLine):Builtin.List.listTooLong n = false := by
 unfold Builtin.List.listTooLong
 exact decide_eq_false (by omega)
end
section
variable {X:Cx}
noncomputable def Xu:V -> List V -> Hp -> VK -> Prop := fun x vs H Q => ∃ l xs y,x = .ref l /\ vs = [y] /\ H l = some (.lst xs) /\ xs.length < sizeLine /\ Q .non (upd H l (.lst (xs ++ [y])))
theorem xD:MtM X "list.append" Xu := by
 intro pins s σ H x vs v us Q I rx rv h
 obtain ⟨l,xs,y,rfl,rfl,hH,hz,q⟩ := h
 cases rx
 obtain ⟨u,rfl,ru⟩ := rv.one
 obtain ⟨z,its,n,r,hl,e⟩ := I.lstM hH
 refine call_meets F.slot_list_append ⟨_,e,rfl⟩ F.entry_list_append (F.args_list_append_2 _ _) (PySem.list_append l its.toArray n u (by rw [List.size_toArray]; omega)) ⟨e,?_⟩
 refine ⟨.non,_,I.lset (its' := its ++ [u]) hH e (by simp) (r.append (.cons ru .nil)) ?_,rfl,q⟩
 rw [List.length_append,List.length_singleton]
 omega
noncomputable def rCat:R2 := fun x y H Q => ∃ l b xs zs,x = .ref l /\ y = .ref b /\ H l = some (.lst xs) /\ H b = some (.lst zs) /\ xs.length + zs.length <= sizeLine /\ ∀ p,H p = none -> Q (.ref p) (upd H p (.lst (xs ++ zs)))
theorem wS:OpR X (binaryOp .Add) rCat := by
 intro pins s σ H x y v u Q I rx ry h
 obtain ⟨l,b,xs,zs,rfl,rfl,hH,hB,hz,q⟩ := h
 cases rx
 cases ry
 obtain ⟨z,its,n,r,hl,e⟩ := I.lstM hH
 obtain ⟨z2,its2,n2,r2,hl2,e2⟩ := I.lstM hB
 refine PySem.P.add_list e e2 ?_ (by rw [List.size_toArray,List.size_toArray]; omega)
 have ea:its.toArray ++ its2.toArray = (its ++ its2).toArray := by simp
 rw [ea]
 exact ⟨.ref _,_,I.lnew (t' := s.toks) (r.append r2) (by rw [List.length_append]; omega),rfl,q _ I.fresh⟩
noncomputable def rRep:R2 := fun x y H Q => ∃ l k xs,x = .ref l /\ y = .int k /\ H l = some (.lst xs) /\ -(2 ^ 63) <= k /\ k < 2 ^ 63 /\ xs.length * k.toNat <= sizeLine /\
 ∀ p,H p = none -> Q (.ref p) (upd H p (.lst (List.replicate k.toNat xs).flatten))
theorem len_rep {α:Type} (xs:List α) (k:Nat):(List.replicate k xs).flatten.length = k * xs.length := by
 induction k with
 | zero => simp
 | succ k ih => rw [List.replicate_succ,List.flatten_cons,List.length_append,ih,Nat.succ_mul,Nat.add_comm]
theorem zao:OpR X (binaryOp .Mult) rRep := by
 intro pins s σ H x y v u Q I rx ry h
 obtain ⟨l,k,xs,rfl,rfl,hH,h1,h2,hz,q⟩ := h
 cases rx
 obtain ⟨t,rfl⟩ := ry
 obtain ⟨z,its,n,r,hl,e⟩ := I.lstM hH
 have hlen:its.toArray.size * k.toNat <= sizeLine := by rw [List.size_toArray,<- hl]; exact hz
 have hcap:¬ its.toArray.size * k.toNat > (2 ^ 63 - 1) / 8 := by
   have:(sizeLine:Nat) <= (2 ^ 63 - 1) / 8 := by decide
   omega
 have hfit:¬ (!Builtin.List.listFitsIndex k) = true := by
   rw [fitsIndex_both h1 h2]
   exact Bool.false_ne_true
 have hlong:¬ Builtin.List.listTooLong (its.toArray.size * k.toNat) = true := by
   rw [QE hlen]
   exact Bool.false_ne_true
 have hnew:List.foldl (fun x1 x2 => x1 ++ x2) #[] (List.replicate (if its.toArray.isEmpty = true then 0 else k.toNat) its.toArray) = (List.replicate k.toNat its).flatten.toArray := by
   have f0:∀ m:Nat,List.foldl (fun x1 x2 => x1 ++ x2) #[] (List.replicate m its.toArray) = (List.replicate m its).flatten.toArray := fun m => by
     have := foldl_rep its m []
     rw [List.nil_append] at this
     exact this
   rw [f0]
   cases its with
   | nil => simp
   | cons a r' => rw [if_neg (by simp)]
 refine wpAny_binaryOp_repeat_ref (T := "list") (U := "int") (by decide) ⟨_,e,rfl⟩ (fun s' => typeIs_int s' k t) noFill_list_mul F.fills_int_mul F.slot_int_rmul repeat_list F.slot_int_index.lookup
   (call_meets F.slot_int_rmul (typeIs_int s k t) F.entry_int_rmul (F.args_int_rmul_2 _ _) (int___rmul___int_list k t l its.toArray n)
     ⟨e,rfl,⟨_,e,rfl⟩,call_meets F.slot_list_mul ⟨_,e,rfl⟩ F.entry_list_mul (F.args_list_mul_2 _ _) (AutoListH.list___mul___list_int_3 l its.toArray n k t hfit hcap hlong) ⟨e,?_⟩⟩)
 rw [hnew]
 exact ⟨.ref _,_,I.lnew (t' := s.toks) (r.rep k.toNat) (by rw [len_rep,Nat.mul_comm]; exact hz),rfl,q _ I.fresh⟩
end
end _L2
namespace _Att
open PySem PySem.W PySem.Calls PyProof.Rows
theorem jO {P:Params} {h:Heap}:∀ (ns:List Int) (vs:List Value),WellAll P h vs (ns.map WData.int) -> IntsAre vs ns := by
 intro ns
 induction ns with
 | nil =>
   intro vs w
   rw [List.map_nil] at w
   cases w
   exact .nil
 | cons n ns ih =>
   intro vs w
   rw [List.map_cons] at w
   cases w with
   | cons a b =>
     cases a
     exact .cons _ _ (ih _ b)
theorem Ww {l:OpenLaw} {n:Nat} (hn:l.most = some n) {P:Params} {h:Heap} {args:List WData} {vals:List Value}
   (hpre:l.row.toRowW.claim.pre args = true) (hwl:WellAll P h vals args) :
   ∃ a vs ns,vals = [Value.ref a] /\ args = [WData.list (ns.map WData.int)] /\ h.get? a = some { cls := .type "list",data := .seq vs.toArray } /\ IntsAre vs ns /\ ns.length <= n := by
 have hsh:WShape.hasAll [] args [.list .int] = true := (pre_splitW hpre).1
 have hc:l.pre.holds [] { args := args } = true := (pre_splitW hpre).2
 obtain ⟨d,r,rfl,h1,h2⟩ := hasAllW_cons hsh
 obtain rfl := hasAllW_nil h2
 obtain ⟨xs,rfl,h3⟩ := hasW_list h1
 obtain ⟨ns,rfl⟩ := items_int h3
 have hlen:ns.length <= n := by
   unfold OpenLaw.pre at hc
   have h4:(WTm.not (.lt (.lit (.int (n:Int))) (.len (.arg 0)))).holds [] { args := [.list (ns.map .int)] } = true := by
     have h4 := (holds_andW hc).1
     rw [hn] at h4
     exact h4
   have h5 := condW_of h4 (w_not (w_lt w_lit (w_len_list (w_arg rfl))))
   rw [List.length_map] at h5
   refine Nat.le_of_not_lt fun q => ?_
   have q':(n:Int) < ((ns.length:Nat):Int) := by omega
   first
     | (rw [decide_eq_true q'] at h5; exact absurd h5 (by decide))
     | (simp at h5; omega)
 cases hwl with
 | cons w1 w2 =>
   cases w2
   cases w1 with
   | list ho hall => exact ⟨_,_,ns,rfl,rfl,ho,jO ns _ hall,hlen⟩
theorem Wx (l:OpenLaw) (args:List WData):l.row.toRowW.claim.post args (.bool true) args = true :=
 postW_of (r := l.row.toRowW) (X := (true == true))
   (show WShape.has [] (.bool true) .bool = true by first | rfl | decide | simp [WShape.has,WShape.arms,WShape.armsAll])
   (show (WTm.eq .res (.lit (.bool true))).value [] { args := args,res := some (.bool true),after := args } = some (.bool (true == true)) from w_eq_bool (w_res rfl) w_lit) rfl
theorem YZ {l:OpenLaw} {n:Nat} {q:Program} {loose:List Str} {XP:(Str -> Option Value) -> Heap -> Prop} {YP:World -> Heap -> Prop} {d:DefRec}
   (hn:l.most = some n) (hdf:d.params.defaults = [])
   (call:∀ (w:World) (s₀ s₁:Shared) (mg mb:Str -> Option Value) (fa:Addr) (o:Obj) (pm cd doc:Value) (a:Addr) (vs:List Value) (ns:List Int),
     Ground q loose [] XP w s₀ mg mb s₁.heap -> YP w s₁.heap ->
     s₁.heap.get? fa = some o -> o.data = .func (docDef d.name d.params d.body d.scope pm cd doc) -> s₁.heap.CodeRec cd d.name -> mg d.name = some (.ref fa) ->
     s₁.heap.get? a = some { cls := .type "list",data := .seq vs.toArray } -> IntsAre vs ns -> ns.length <= n -> s₁.gens = #[] ->
     codeAny (model l.prog w) callerA (.call (.ref fa) ⟨[.ref a],[]⟩) (fun r s' => r = .ok (.ret (.bool true)) /\ OldK s₁.heap s'.heap /\ s'.os = s₁.os /\ AllBare s'.gens) s₁) :
   WalkO q loose XP YP l.row.toRowW d [] (fun f vs => PySem.call f vs) := by
 intro w s₀ s₁ mg mb G Y fa o pm cd doc dV kV ho hd hcd hD hmg hg args vals as hpre hlay hrd hwl hlo
 obtain rfl:dV = .none := Dflts.none hD hdf
 obtain rfl:kV = .none := Dflts.noKw hD
 obtain ⟨a,vs,ns,rfl,rfl,hobj,hints,hlen⟩ := Ww hn hpre hwl
 refine enter_call (codeAny_mono (call w s₀ s₁ mg mb fa o pm cd doc a vs ns G Y ho (fd_plain hd) hcd hmg hobj hints hlen hg) fun r s' hq => ?_)
 obtain ⟨rfl,h2,h3,h4⟩ := hq
 exact ⟨.inl ⟨.bool true,.bool true,[],rfl,fun _ => rfl,.bool true,Wx l _,fun _ => ⟨List.Pairwise.nil,fun _ hm => (nomatch hm)⟩⟩,h2,h3,h4⟩
end _Att
namespace _L2
open PySem PySem.Spec PyProof.Rows
theorem ZF:∀ {vs:List Value} {ns:List Int},IntsAre vs ns -> Vals (ns.map V.int) vs
 | _,_,.nil => .nil
 | _,_,.cons n t h => .cons ⟨t,rfl⟩ (ZF h)
end _L2
namespace _L2
open PySem PySem.Spec PyProof.Rows
end _L2
namespace _L2
open PySem PySem.Spec PyProof.Rows
noncomputable def zJ (s:Stmt):Arguments := match s with
 | .FunctionDef _ a _ _ _ _ _ _ _ _ => a
 | _ => { posonlyargs := [],args := [],vararg := none,kwonlyargs := [],kw_defaults := [],kwarg := none,defaults := [] }
noncomputable def zD (s:Stmt):List Stmt := match s with
 | .FunctionDef _ _ b _ _ _ _ _ _ _ => b
 | _ => []
noncomputable def zl (s:Stmt):Scope := match s with
 | .FunctionDef _ _ _ _ _ _ sc _ _ _ => sc
 | _ => { kind := .function,names := [],isGenerator := false,isCoroutine := false }
abbrev CX0:CXT := fun _ _ _ _ _ _ => False
abbrev E0:XK := fun _ _ _ => False
theorem zV {X:Cx}:jN CX0 X E0 := fun _ _ _ _ _ _ _ h => h.elim
structure Fun (K:PySem.W.Frag) (x qual:Str) (st:Stmt) (f:Addr) (fd:FuncData):Prop where
 ex:∃ (oc:Value) (od:Option Addr) (kV doc pm:Value) (an:Option Addr) (cdv ct:Value) (osl:Array (Option Value)),
   fd = PySem.W.fnOf x qual (zJ st) (zD st) (zl st) .none kV doc pm an cdv ct /\ K.lookup f = some ⟨oc,od,.func fd,osl⟩ /\ PySem.W.codeIn K cdv qual = true
 kp:PySem.W.keepIn K (.ref f) = true
section
variable {P:Program} {w:World} {K:PySem.W.Frag} {mg:Str -> Option Value} {base:Heap}
theorem Fun.ok {x qual:Str} {st:Stmt} {f:Addr} {fd:FuncData} {N ps:List Str} {k:Nat} {sp:Sp} (F:Fun K x qual st f fd) (S:zC N ps (zl st)) (len:∀ vs H Q E,sp vs H Q E -> vs.length = ps.length)
   (hbody:∀ (cdv:Value) (A:Around) (outer:List Env) (s:Shared) (H:Hp) (vs:List V) (Q:VK) (E:XK),Room k (A.deeper (envOfC qual (zl st) s.heap.objs.size f cdv)) -> sp vs H Q E ->
     ∃ t,PSs (cxOf CX0 P w K mg base N qual (zl st) f cdv A outer s H E).nox (zD st) t /\ t { nx := fun _ H' => Q .non H',rt := Q } (start N vs) H):FnOk P w K mg base CX0 (k + 1) f fd ps sp := by
 obtain ⟨oc,od,kV,doc,pm,an,cdv,ct,osl,rfl,lk,hcd⟩ := F.ex
 refine Z8 lk hcd S len fun A outer s H vs Q E hr hsp => ?_
 obtain ⟨t,h,q⟩ := hbody cdv A outer s H vs Q E hr hsp
 exact ⟨t,h.nox,q⟩
theorem Fun.binds {x qual:Str} {st:Stmt} {f:Addr} {fd:FuncData} {ps:List Str} (F:Fun K x qual st f fd)
   (h:∀ (kV doc pm:Value) (an:Option Addr) (cdv ct:Value) (us:List Value),us.length = ps.length -> bindArgs (PySem.W.fnOf x qual (zJ st) (zD st) (zl st) .none kV doc pm an cdv ct) ⟨us,[]⟩ = pure (ps.zip us)):Binds K fd ps [] := by
 obtain ⟨oc,od,kV,doc,pm,an,cdv,ct,osl,rfl,lk,hcd⟩ := F.ex
 exact .all (h kV doc pm an cdv ct)
theorem zW {x qual:Str} {st:Stmt} {f:Addr} {oc:Value} {od an:Option Addr} {osl:Array (Option Value)} {kV doc pm cdv ct:Value} (l:K.lookup f = some ⟨oc,od,.func (PySem.W.fnOf x qual (zJ st) (zD st) (zl st) .none kV doc pm an cdv ct),osl⟩)
   (c:PySem.W.codeIn K cdv qual = true) (k:PySem.W.keepIn K (.ref f) = true):Fun K x qual st f (PySem.W.fnOf x qual (zJ st) (zD st) (zl st) .none kV doc pm an cdv ct) := ⟨⟨oc,od,kV,doc,pm,an,cdv,ct,osl,rfl,l,c⟩,k⟩
end
section
variable {X:Cx}
theorem pv (i:Nat) {x:Str} {pos:Pos} (hN:X.N[i]? = some x := by rfl) (hv:Vis X.env.scope x := by first | exact Or.inl rfl | exact Or.inr (Or.inl rfl) | exact Or.inr (Or.inr rfl)) (hd:(x == ("__debug__" : Str)) = false := by decide)
   (hcd:(x == ("__classdict__" : Str)) = false := by decide):PE X (.Name x pos) (tVar i) := zah hN hv hd hcd
end
theorem iteF {A B:Prop} (h:B):if false = true then A else B := by
 rw [if_neg Bool.false_ne_true]
 exact h
theorem iteT {A B:Prop} (h:A):if true = true then A else B := by
 rw [if_pos rfl]
 exact h
theorem ite2 {c A B:Prop} [Decidable c] (h1:c -> A) (h2:¬ c -> B):if c then A else B := by
 by_cases h:c
 · rw [if_pos h]
   exact h1 h
 · rw [if_neg h]
   exact h2 h
theorem za4 {c A B:Prop} [Decidable c] (hc:c) (h:B):if (!decide c) = true then A else B := by
 rw [decide_eq_true hc]
 exact iteF h
noncomputable def Same (H H':Hp):Prop := ∀ b o,H b = some o -> H' b = some o
theorem Same.refl (H:Hp):Same H H := fun _ _ h => h
theorem Same.trans {H H1 H2:Hp} (a:Same H H1) (b:Same H1 H2):Same H H2 := fun c o h => b c o (a c o h)
theorem Same.free {H H':Hp} (e:Same H H') {l:Addr} (h:H' l = Option.none):H l = Option.none := by
 cases q:H l with
 | none => rfl
 | some o =>
   rw [e l o q] at h
   cases h
theorem Same.seq {K:PySem.W.Frag} {H H':Hp} {a:Addr} {xs:List V} (e:Same H H') (h:SqL K H a xs):SqL K H' a xs := by
 rcases h with (h | ⟨o,h⟩) | h
 · exact .inl (.inl (e _ _ h))
 · exact .inl (.inr ⟨o,e _ _ h⟩)
 · exact .inr h
end _L2
namespace _L2
open PySem PySem.Spec PyProof.Rows
theorem z7.some_ {P:Program} {w:World} {H:Hp} {h:Heap} {a:Addr} {o:HO} (x:z7 P w H h a o):∃ ob,h.get? a = some ob := by
 cases o with
 | lst xs => obtain ⟨_,_,_,_,e⟩ := x; exact ⟨_,e⟩
 | tup xs => obtain ⟨_,_,_,ob,e,_⟩ := x; exact ⟨_,e⟩
 | dK kvs => obtain ⟨_,_,_,_,o,_,_,e,_⟩ := x; exact ⟨_,e⟩
 | dT kvs => obtain ⟨_,_,_,_,o,_,_,e,_⟩ := x; exact ⟨_,e⟩
 | set S n => obtain ⟨o,_,_,_,e,_⟩ := x; exact ⟨_,e⟩
 | ins C dx fs => obtain ⟨_,_,_,e,_⟩ := x; exact ⟨_,e⟩
 | own y => obtain ⟨_,e⟩ := x; exact ⟨_,e⟩
 | xd fs => obtain ⟨_,⟨_,_,_,e,_⟩,_⟩ := x; exact ⟨_,e⟩
 | rng lo hi => obtain ⟨_,_,_,e⟩ := x; exact ⟨_,e⟩
 | frz ob u => obtain ⟨e,_⟩ := x; exact ⟨_,e⟩
 | tbl ps => exact ⟨_,(show h.get? a = some _ from x)⟩
 | met f y => exact ⟨_,(show h.get? a = some _ from x)⟩
 | ext φ => obtain ⟨_,⟨_,e⟩,_⟩ := x; exact ⟨_,e⟩
theorem Inv.there {X:Cx} {pins:List (Addr × Obj)} {σ:St} {H:Hp} {s:Shared} (I:Inv X pins σ H s) {a:Addr} {o:HO} (e:H a = some o):∃ ob,s.heap.get? a = some ob := (I.hok a o e).some_
theorem Inv.none_of {X:Cx} {pins:List (Addr × Obj)} {σ:St} {H:Hp} {s:Shared} (I:Inv X pins σ H s) {a:Addr} (e:s.heap.get? a = none):H a = none := by
 cases q:H a with
 | none => rfl
 | some o =>
   obtain ⟨ob,z⟩ := I.there q
   rw [e] at z
   cases z
structure Fly (h0 h:Heap) (H:Hp) (C ea T:Addr):Prop where
 ob:∃ (oe:Obj) (vs:Array Value) (a0:Value) (oT:Obj) (ts:Array Value),h.get? ea = some oe /\ oe.cls = .ref C /\ oe.data = .fields vs /\ vs[0]? = some a0 /\ vs[1]? = some (.ref T) /\ h.get? T = some oT /\ oT.data = .fields ts /\ ts[3]? = some .none
 ne:T ≠ ea
 fe:H ea = none
 fT:H T = none
 ne0:h0.get? ea = none
 nT0:h0.get? T = none
noncomputable def CXE (P:Program) (w:World):CXT := fun outer H s E e s' => ∃ (ea T C:Addr) (H':Hp),e = .ref ea /\ s'.os = s.os /\ AllBare s'.gens /\ Un (frs outer) [] H H' s.heap s'.heap /\ HOk P w H' s'.heap /\ Fly s.heap s'.heap H' C ea T /\ E (.ref C) none H'
theorem zap {P:Program} {w:World} {X:Cx}:jN (CXE P w) X E0 := fun _ _ _ _ _ _ _ ⟨_,_,_,_,_,_,_,_,_,_,z⟩ => z.elim
structure Exc (K:PySem.W.Frag) (mg:Str -> Option Value) (x:Str) (C:Addr):Prop where
 bound:mg x = some (.ref C)
 ex:PySem.W.excIn K C [.type "ValueError",.type "Exception",.type "BaseException",.type "object"] "ValueError.__new__" = true
theorem Zc {K:PySem.W.Frag} {h:Heap} {C:Addr} {bmB:List Value} {newId:String} (X:K.In h) (q:PySem.W.excIn K C bmB newId = true) :
   ∃ bm N nm qn bs hdct sn sub ab col dd k0 k1 k2 k3 k5 mN,h.get? C = some (excClassObj nm qn C N bs bm hdct sn sub ab col dd k0 k1 k2 k3 k5 newId) /\ h.Ns N mN /\ mN "__init__" = none /\ OwnTail h bmB bm := by
 unfold PySem.W.excIn at q
 split at q
 case h_2 => cases q
 case h_1 dd cd sl ho =>
   split at q
   case h_2 => cases q
   case h_1 C' bm k0 k1 k2 k3 n k5 hm hs =>
     simp only [Bool.and_eq_true,beq_iff_eq,Bool.not_eq_true'] at q
     obtain ⟨⟨⟨⟨⟨e1,e2⟩,e3⟩,e4⟩,e5⟩,e6⟩ := q
     subst e1 e2
     cases cd with
     | mk nm bs mro ns qn hd sn sub ab col del =>
       have hsl:sl = #[k0,k1,k2,k3,some (.builtin n),k5] := by rw [<- Array.toList_inj]; exact hs
       simp only at hm e3 e5 e6
       subst hm e3 hsl
       exact ⟨bm,ns,nm,qn,bs,hd,sn,sub,ab,col,dd,k0,k1,k2,k3,k5,_,X _ _ ho,.of_isNs (PySem.W.isNs_of_in X e5),PySem.W.nsMap_none_of_in X e5 e6,PySem.W.tail_of_in X e4⟩
noncomputable def Wy (C:Addr) (t:TA) (E:XK):TS := fun _ σ H => t σ H fun xs H1 => xs.length <= sizeLine /\ E (.ref C) none H1
theorem Inv.hid {X:Cx} {pins:List (Addr × Obj)} {σ:St} {H:Hp} {s:Shared} (I:Inv X pins σ H s) (as:List Addr) (hs:∀ b ∈ frs X.stack,b ∈ as):s.heap.FunFrames (PySem.W.hideAll s.heap as) X.stack :=
 PySem.W.funFrames_hide I.stack fun env he a hf => hs a (List.mem_filterMap.mpr ⟨env,he,hf⟩)
section
variable {P:Program} {w:World} {K:PySem.W.Frag} {mg:Str -> Option Value} {base:Heap} {N:List Str} {qual:Str} {scope:Scope} {f:Addr} {cd:Value} {A:Around} {outer:List Env} {s₀:Shared} {H₀:Hp} {E:XK}
theorem Xa {pins:List (Addr × Obj)} {σ:St} {H:Hp} {s:Shared} {C e:Addr} {vs:List Value} {h':Heap} (I:Inv (cxOf (CXE P w) P w K mg base N qual scope f cd A outer s₀ H₀ E) pins σ H s)
   (hx:Heap.MadeExcOf s.heap h' e (.ref C) vs) (q:E (.ref C) none H):(cxOf (CXE P w) P w K mg base N qual scope f cd A outer s₀ H₀ E).xe (.ref e) { s with heap := h' } := by
 have hin:∀ b ∈ frs (envOfC qual scope s₀.heap.objs.size f cd :: outer),b ∈ frs (envOfC qual scope s₀.heap.objs.size f cd :: outer) := fun _ z => z
 have ff := I.hid _ hin
 show wpAny _ _ (leaving _ _) _ _ _
 refine wpAny_leaves_madeW (base := PySem.W.hideAll s.heap (frs (envOfC qual scope s₀.heap.objs.size f cd :: outer))) (h := s.heap) I.ok.frames rfl (fun b o z => PySem.W.of_hideAll _ z) ff hx fun h2 t fl tt tn up => ?_
 have inB:∀ b o,b ∉ frs (envOfC qual scope s₀.heap.objs.size f cd :: outer) -> s.heap.get? b = some o -> h2.get? b = some o := fun b o nb z => fl.1 b o (PySem.W.hideAll_get _ z nb)
 have upS:∀ b o,b ∈ frs (envOfC qual scope s₀.heap.objs.size f cd :: outer) -> s.heap.get? b = some o -> ∃ sl,h2.get? b = some { o with slots := sl } := fun b o nb z => by
   obtain ⟨_,o',z',hd⟩ := I.stack.mem nb
   rw [z] at z'
   cases z'
   exact up b o (hx.keeps b o z) hd
 have notL:∀ b o,s₀.heap.get? b = some o -> b ∉ frs outer -> b ∉ frs (envOfC qual scope s₀.heap.objs.size f cd :: outer) := fun b o z nb m => by
   rcases List.mem_cons.mp (I.stkSub b m) with z' | z'
   · have := Heap.lt_size z
     have z':b = s₀.heap.objs.size := z'
     rw [z'] at this
     exact Nat.lt_irrefl _ this
   · exact nb z'
 have thr:∀ b o,s.heap.get? b = some o -> ∃ o',h2.get? b = some o' := fun b o z => by
   by_cases hb:b ∈ frs (envOfC qual scope s₀.heap.objs.size f cd :: outer)
   · obtain ⟨sl,z'⟩ := upS b o hb z
     exact ⟨_,z'⟩
   · exact ⟨o,inB b o hb z⟩
 obtain ⟨_,_,_,oe,vs',T,oT,ts,a1,⟨a2,a3⟩,a4,a5,a6,a7,a8,a9,a10⟩ := fl
 have noT:s.heap.get? T = none := by
   cases z:s.heap.get? T with
   | none => rfl
   | some o =>
     by_cases hb:T ∈ frs (envOfC qual scope s₀.heap.objs.size f cd :: outer)
     · obtain ⟨_,o',z',hd⟩ := I.stack.mem hb
       obtain ⟨sl,z2⟩ := upS T o hb z
       rw [z] at z'
       cases z'
       rw [a8] at z2
       cases z2
       exact absurd a9 (hd ts)
     · rw [PySem.W.hideAll_get _ z hb] at a6
       cases a6
 have no0:∀ b,s.heap.get? b = none -> s₀.heap.get? b = none := fun b z => by
   cases y:s₀.heap.get? b with
   | none => rfl
   | some o =>
     obtain ⟨o',z'⟩ := I.base.there b o y (fun m => nomatch m)
     rw [z] at z'
     cases z'
 refine ⟨e,T,C,H,rfl,I.os,I.bare,⟨fun b o z n nb _ => ?_,fun b o z n nb _ => ?_,fun b o z n _ => I.base.free b o z n (fun m => nomatch m),fun b o z _ => ?_,I.base.tups,I.base.frzs,I.base.tbls⟩,fun a o z => ?_,
   ⟨⟨oe,vs',.ref t,oT,ts,a1,a2,a4,a3,a5,a8,a9,a10⟩,a7,I.none_of hx.new,I.none_of noT,no0 _ hx.new,no0 _ noT⟩,q⟩
 · exact inB b o (notL b o z nb) (I.base.keep b o z n nb (fun m => nomatch m))
 · obtain ⟨sl,z1⟩ := I.base.slot b o z n nb (fun m => nomatch m)
   obtain ⟨sl',z2⟩ := upS b _ (by
     show b ∈ frs _
     unfold frs
     rw [List.filterMap_cons]
     exact List.mem_cons_of_mem _ nb) z1
   exact ⟨sl',z2⟩
 · obtain ⟨o',z'⟩ := I.base.there b o z (fun m => nomatch m)
   exact thr b o' z'
 · refine (I.hok a o z).stay (fun b u hb r => ?_) (fun _ y => y) fun _ _ y => y
   refine inB b u (fun m => ?_) r
   have := I.stkFree b m
   rcases hb with rfl | hb
   · rw [z] at this; cases this
   · rw [hb] at this; cases this
theorem QF {x:Str} {C:Addr} {e:Expr} {es:List Expr} {t:TA} {np cpos pos:Pos} (ex:Exc K mg x C) (hh:A.handled = none) (hg:Gl (cxOf (CXE P w) P w K mg base N qual scope f cd A outer s₀ H₀ E) x)
   (ha:PA (cxOf (CXE P w) P w K mg base N qual scope f cd A outer s₀ H₀ E) (e :: es) t)
   (hs:starEach (e :: es) (envOfC qual scope s₀.heap.objs.size f cd) = (false,eval e (envOfC qual scope s₀.heap.objs.size f cd)) :: starEach es (envOfC qual scope s₀.heap.objs.size f cd) := by rfl)
   (hpl:(backTo cpos (starEach es (envOfC qual scope s₀.heap.objs.size f cd))).any (·.1) = false := by rfl) (hd:(x == ("__debug__" : Str)) = false := by decide) :
   PS (cxOf (CXE P w) P w K mg base N qual scope f cd A outer s₀ H₀ E) (.Raise (some (.Call (.Name x np) (e :: es) [] cpos)) none pos) (Wy C t E) := by
 intro pins s σ H D I h
 obtain ⟨bm,N',nm,qn,bs,hdct,sn,sub,ab,col,dd,k0,k1,k2,k3,k5,mN,hC,hN,hni,TL⟩ := Zc (h := base) I.mod.kin ex.ex
 refine wpAny_Raise_call_subT (C := C) (nm := nm) (q := qn) (N := N') (bs := bs) (bm := bm) (hdct := hdct) (sn := sn) (sub := sub) (ab := ab) (col := col) (dd := dd) (k0 := k0) (k1 := k1) (k2 := k2) (k3 := k3) (k5 := k5)
   PySem.F.excBase_ValueError (mN := mN) (TL.hasType PySem.F.excBase_ValueError.hasBase) hh (by
     show (backTo cpos (starEach (e :: es) (envOfC qual scope s₀.heap.objs.size f cd))).any (·.1) = false
     rw [hs]
     show (false || (backTo cpos (starEach es (envOfC qual scope s₀.heap.objs.size f cd))).any (·.1)) = false
     rw [hpl]
     rfl) hni (xk I hg ex.bound ⟨rfl,?_⟩ hd)
 have h1 := ha cpos pins s σ H _ I h
 show wpAny _ _ (evalArgs (.ref C) true (backTo cpos (starEach (e :: es) (envOfC qual scope s₀.heap.objs.size f cd))) []) _ _ _
 have h1:wpAny _ _ (spliced (backTo cpos (starEach (e :: es) (envOfC qual scope s₀.heap.objs.size f cd)))) _ _ s := h1
 rw [hs] at h1 ⊢
 refine Calls.evalArgs_plain (wpAny_mono h1 (fun us s2 ⟨xs,H2,I2,r,z,q⟩ => ⟨rfl,?_,I2.bk _ _ hC,hN.keeps I2.bk,TL.keeps I2.bk,fun h' e' hx => ?_⟩) fun _ _ y => y)
 · rw [<- r.length]; exact z
 · exact Xa I2 hx q
end
theorem Fun.okE {P:Program} {w:World} {K:PySem.W.Frag} {mg:Str -> Option Value} {base:Heap} {x qual:Str} {st:Stmt} {f:Addr} {fd:FuncData} {N ps:List Str} {k:Nat} {sp:Sp} (F:Fun K x qual st f fd) (S:zC N ps (zl st)) (len:∀ vs H Q E,sp vs H Q E -> vs.length = ps.length)
   (hbody:∀ (cdv:Value) (A:Around) (outer:List Env) (s:Shared) (H:Hp) (vs:List V) (Q:VK) (E:XK),Room k (A.deeper (envOfC qual (zl st) s.heap.objs.size f cdv)) -> A.handled = none -> sp vs H Q E ->
     ∃ t,PSs (cxOf (CXE P w) P w K mg base N qual (zl st) f cdv A outer s H E) (zD st) t /\ t { nx := fun _ H' => Q .non H',rt := Q } (start N vs) H):FnOk P w K mg base (CXE P w) (k + 1) f fd ps sp := by
 obtain ⟨oc,od,kV,doc,pm,an,cdv,ct,osl,rfl,lk,hcd⟩ := F.ex
 exact Z8 lk hcd S len fun A outer s H vs Q E hr hsp => hbody cdv A outer s H vs Q E hr hr.hd hsp
end _L2
namespace _L2
open PySem PySem.Spec PyProof.Rows
theorem Inv.track {X:Cx} {pins:List (Addr × Obj)} {σ:St} {H:Hp} {s:Shared} {p:Addr} {o:HO} (I:Inv X pins σ H s) (hn:H p = none) (h0:X.s₀.heap.get? p = none) (hl:p ≠ X.env.locals)
   (hc:∀ x c,X.env.cells.lookup x = some c -> c ≠ p) (hp:∀ q ∈ X.pn ++ pins,q.1 ≠ p) (new:z7 X.prog X.w (upd H p o) s.heap p o):Inv X pins σ (upd H p o) s where
 ok := I.ok
 os := I.os
 bare := I.bare
 base := ⟨I.base.keep,I.base.slot,fun b ob e n hx => by
     rw [zq (fun z => by rw [z,h0] at e; cases e)]
     exact I.base.free b ob e n hx,I.base.there,
   fun b xs e => by rw [zq (zy (I.base.tups b xs e) hn)]; exact I.base.tups b xs e,
   fun b ob u e => by rw [zq (zy (I.base.frzs b ob u e) hn)]; exact I.base.frzs b ob u e,
   fun b ps e => by
     obtain ⟨m,z⟩ := I.base.tbls b ps e
     exact ⟨m,by rw [zq (zy z hn)]; exact z⟩⟩
 loc := I.loc
 cell := I.cell
 free := by rw [zq hl.symm]; exact I.free
 freeC := fun x c e => by rw [zq (hc x c e)]; exact I.freeC x c e
 pin := fun q m => by
   obtain ⟨a,b,c⟩ := I.pin q m
   exact ⟨a,by rw [zq (hp q m)]; exact b,c⟩
 hok := fun b u e => by
   by_cases hb:b = p
   · subst hb
     rw [zd] at e
     cases e
     exact new
   · rw [zq hb] at e
     exact (I.hok b u e).stay (fun _ _ _ q => q) (fun c q => by rw [zq (zy q hn)]; exact q) fun c xs q => by rw [zq (zy q hn)]; exact q
 len := I.len
theorem Inv.turned2 {X:Cx} {pins:List (Addr × Obj)} {σ:St} {H:Hp} {s:Shared} {h':Heap} {t':Nat} {i j:Addr} (I:Inv X pins σ H s) (k:∀ b o,b ≠ i -> b ≠ j -> s.heap.get? b = some o -> h'.get? b = some o) (fi:FpOk X pins H i) (fj:FpOk X pins H j) :
   Inv X pins σ H { s with heap := h',toks := t' } := by
 obtain ⟨a0,a1,a2,a3,a4,a5⟩ := fi
 obtain ⟨b0,b1,b2,b3,b4,b5⟩ := fj
 have nit:∀ b u,H b = some u -> b ≠ i /\ b ≠ j := fun b u e => ⟨(fun z => by rw [z,a0] at e; cases e),(fun z => by rw [z,b0] at e; cases e)⟩
 have kk:∀ b o,b ∉ [i,j] -> s.heap.get? b = some o -> h'.get? b = some o := fun b o m e => k b o (fun z => m (by simp [z])) (fun z => m (by simp [z])) e
 refine I.step (g' := s.gens) (d' := s.drawn) (ch := [i,j]) (fun b hb => ?_) (fun b o _ _ m e _ => kk b o m e) (fun b o _ _ m e _ => ⟨o.slots,kk b o m e⟩) (fun _ _ _ _ n => n) (fun b o m e => ⟨o,kk b o m e⟩) (fun _ _ e => e) (fun _ _ _ e => e)
   (fun b ps e => ⟨#[],by rw [e]; simp⟩) (fun m hm => ?_) (fun b u e => ?_) I.bare
 · rcases List.mem_cons.mp hb with rfl | hb
   · exact ⟨a3,a1,a4,a5⟩
   · obtain rfl := List.mem_singleton.mp hb
     exact ⟨b3,b1,b4,b5⟩
 · obtain ⟨o,es,ep,ho,r⟩ := hm
   exact ⟨o,es,ep,k _ o a1.symm b1.symm ho,r⟩
 · refine (I.hok b u e).stay (fun c v hc q => k c v ?_ ?_ q) (fun _ q => q) fun _ _ q => q
   · rcases hc with z | z
     · rw [z]; exact (nit b u e).1
     · exact (nit c _ z).1
   · rcases hc with z | z
     · rw [z]; exact (nit b u e).2
     · exact (nit c _ z).2
end _L2
namespace _L2
open PySem PySem.Spec PyProof.Rows
theorem getD_at {α:Type} {xs:List α} {i:Nat} {d:α} (h:i < xs.length):xs.getD i d = xs[i] := by
 rw [List.getD_eq_getElem?_getD,List.getElem?_eq_getElem h]
 rfl
section
variable {X:Cx}
theorem xo {ns:List Int} {its:List Value} (r:Vals (ns.map V.int) its):∀ (i:Nat) (v:Value),its.toArray[i]? = some v -> ∃ t,v = Value.int (ns.getD i 0) t := by
 intro i v e
 rw [List.getElem?_toArray] at e
 have hl := r.length
 have hi:i < its.length := (List.getElem?_eq_some_iff.mp e).1
 rw [List.length_map] at hl
 have hx:(ns.map V.int)[i]? = some (.int (ns.getD i 0)) := by
   rw [List.getElem?_map,List.getElem?_eq_getElem (by omega)]
   simp [List.getD,show i < ns.length by omega]
 obtain ⟨u,hu,ru⟩ := r.get hx
 rw [e] at hu
 cases hu
 exact ru
theorem Yh {P:Nat -> Value -> Prop} {pins:List (Addr × Obj)} {σ:St} {H:Hp} {s:Shared} {a:Addr} {its:List Value} (I:Inv X pins σ H s) (tp:IsTup s.heap a its.toArray) (hc:X.calm = true) {Q:Value -> Shared -> Prop}
   (q:∀ s2:Shared,s2 = { s with heap := s.heap.push { cls := .type "tuple_iterator",data := .fields #[.ref a,.int 0 0] } } -> Walks X.prog X.w X.A.in1 s.heap.objs.size [s.heap.objs.size,a] [s.heap.objs.size] its.toArray.size (fun i v => its.toArray[i]? = some v) (fun i h => h.IsTupleIter s.heap.objs.size a i /\ h.IsTuple a its.toArray) ->
     (s2.heap.IsTupleIter s.heap.objs.size a 0 /\ s2.heap.IsTuple a its.toArray) -> (∀ b ∈ [s.heap.objs.size,a],b < s2.heap.objs.size) -> Q (.ref s.heap.objs.size) s2):wpAny (model X.prog X.w) X.A.in1 (pyIter (.ref a)) Q X.xe s := by
 have tp':s.heap.IsTuple a its.toArray := tp
 have hlt:a < s.heap.objs.size := by obtain ⟨_,e,_⟩ := tp'; exact Heap.lt_size e
 refine wpAny_pyIter_tuple tp' (q _ rfl (Walks.tuple (by exact I.ok.hd hc) _ _ (Nat.ne_of_lt hlt) _) ⟨⟨_,Heap.get?_push_size _ rfl,rfl,rfl⟩,?_⟩ fun b hb => ?_)
 · obtain ⟨o,e,r⟩ := tp'
   exact ⟨o,Heap.get?_push_of_some _ e,r⟩
 · show b < (s.heap.push _).objs.size
   rw [Heap.size_push]
   rcases List.mem_cons.mp hb with rfl | hb
   · exact Nat.lt_succ_self _
   · rw [List.mem_singleton.mp hb]
     exact Nat.lt_succ_of_lt hlt
theorem qd {ns:List Int} {k:Nat} (h:k < ns.length):ns.getD k 0 ∈ ns := by
 rw [getD_at h]
 exact List.getElem_mem h
theorem jP {ns:List Int} {z:Int} (h:z ∈ ns):∃ j,j < ns.length /\ ns.getD j 0 = z := by
 obtain ⟨j,hj,e⟩ := List.mem_iff_getElem.mp h
 exact ⟨j,hj,by rw [getD_at hj]; exact e⟩
theorem Wz (hc:X.calm = true):yr X (.builtin "min") (fun xs H Q => ∃ (a:Addr) (ns:List Int),xs = [.ref a] /\ SqT X.K H a (ns.map V.int) /\ 0 < ns.length /\ ∀ M,M ∈ ns -> (∀ z ∈ ns,M <= z) -> Q (.int M) H) := by
 intro pins s σ H xs us Q I r h
 obtain ⟨a,ns,rfl,hq,hn,q⟩ := h
 obtain ⟨u,rfl,ru⟩ := vals1 r
 cases ru
 obtain ⟨its,rv,tp,hz⟩ := I.tuple hq
 have hl := rv.length
 rw [List.length_map] at hl
 refine call_min_walk (Yh (P := fun _ _ => True) I tp hc fun s2 e W st hfp => ?_)
 subst e
 refine ⟨_,_,_,_,_,_,_,rfl,W,st,hfp,by simp; omega,CmpOf.ints_lt (fun i => ns.getD i 0) (xo rv),fun v h' tk hP hk => ?_⟩
 obtain ⟨t,rfl⟩ := xo rv _ _ hP
 obtain ⟨b1,b2⟩ := argBest_lt (fun i => ns.getD i 0) (its.toArray.size - 1)
 rw [List.size_toArray] at b1 b2
 refine ⟨.int _,H,I.kept (t' := tk) fun b o e => hk b o (fun m => ?_) (Heap.get?_push_of_some _ e),⟨t,rfl⟩,q _ (qd ?_) fun z hz => ?_⟩
 · have := Heap.lt_size e
   rw [List.mem_singleton.mp m] at this
   exact Nat.lt_irrefl _ this
 · rw [List.size_toArray]; omega
 · obtain ⟨j,hj,e⟩ := jP hz
   rw [<- e,List.size_toArray]
   exact b2 j (by omega)
theorem WA (hc:X.calm = true):yr X (.builtin "max") (fun xs H Q => ∃ (a:Addr) (ns:List Int),xs = [.ref a] /\ SqT X.K H a (ns.map V.int) /\ 0 < ns.length /\ ∀ M,M ∈ ns -> (∀ z ∈ ns,z <= M) -> Q (.int M) H) := by
 intro pins s σ H xs us Q I r h
 obtain ⟨a,ns,rfl,hq,hn,q⟩ := h
 obtain ⟨u,rfl,ru⟩ := vals1 r
 cases ru
 obtain ⟨its,rv,tp,hz⟩ := I.tuple hq
 have hl := rv.length
 rw [List.length_map] at hl
 refine call_max_walk (Yh (P := fun _ _ => True) I tp hc fun s2 e W st hfp => ?_)
 subst e
 refine ⟨_,_,_,_,_,_,_,rfl,W,st,hfp,by simp; omega,CmpOf.ints_gt (fun i => ns.getD i 0) (xo rv),fun v h' tk hP hk => ?_⟩
 obtain ⟨t,rfl⟩ := xo rv _ _ hP
 obtain ⟨b1,b2⟩ := argBest_gt (fun i => ns.getD i 0) (its.toArray.size - 1)
 rw [List.size_toArray] at b1 b2
 refine ⟨.int _,H,I.kept (t' := tk) fun b o e => hk b o (fun m => ?_) (Heap.get?_push_of_some _ e),⟨t,rfl⟩,q _ (qd ?_) fun z hz => ?_⟩
 · have := Heap.lt_size e
   rw [List.mem_singleton.mp m] at this
   exact Nat.lt_irrefl _ this
 · rw [List.size_toArray]; omega
 · obtain ⟨j,hj,e⟩ := jP hz
   rw [<- e,List.size_toArray]
   exact b2 j (by omega)
noncomputable def eqL (xs ys:List V):Bool := xs.length == ys.length && (List.range xs.length).all fun j => eqV (xs.getD j .non) (ys.getD j .non)
noncomputable def rEqL (K:PySem.W.Frag):R2 := fun x y H Q => ∃ a b xs ys,x = .ref a /\ y = .ref b /\ SqL K H a xs /\ SqL K H b ys /\ xs.all wj = true /\ ys.all wj = true /\ Q (.bl (eqL xs ys)) H
theorem yG {xs:List V} {us:List Value} (r:Vals xs us) {j:Nat} (h1:j < us.length):RelV (xs.getD j .non) us[j] := by
 have hl := r.length
 obtain ⟨u,hu,ru⟩ := r.get (i := j) (x := xs.getD j .non) (by rw [List.getElem?_eq_getElem (by omega),getD_at (by omega)])
 rw [List.getElem?_eq_getElem h1] at hu
 cases hu
 exact ru
theorem Xv {xs:List V} (f:xs.all wj = true) {j:Nat} (h:j < xs.length):wj (xs.getD j .non) = true := by
 rw [getD_at h]
 exact List.all_eq_true.mp f _ (List.getElem_mem h)
theorem zaq (hu:X.A.units < cLine):OpR X (compareOp .Eq) (rEqL X.K) := by
 intro pins s σ H x y v u Q I rx ry h
 obtain ⟨a,b,xs,ys,rfl,rfl,ha,hb,fx,fy,q⟩ := h
 cases rx
 cases ry
 obtain ⟨i1,r1,p1,z1⟩ := I.list ha
 obtain ⟨i2,r2,p2,z2⟩ := I.list hb
 have l1 := r1.length
 have l2 := r2.length
 by_cases hl:xs.length = ys.length
 · refine SeqAt.eq_listAt (e := fun j => eqV (xs.getD j .non) (ys.getD j .non)) p1.isList p2.isList (by simp; omega) hu (fun j h1 h2 => ?_) ⟨.bl _,H,I,rfl,?_⟩
   · have h1':j < i1.length := by simpa using h1
     have h2':j < i2.length := by simpa using h2
     have e := Wv (A := X.A.in1) (s := s) (yG r1 h1') (yG r2 h2') (Xv fx (by omega)) (Xv fy (by omega))
     simpa using e
   · have e:eqL xs ys = (List.range i1.toArray.size).all fun j => eqV (xs.getD j .non) (ys.getD j .non) := by
       unfold eqL
       rw [List.size_toArray,<- l1,hl]
       simp
     rw [<- e]
     exact q
 · refine SeqAt.eq_list_lengthsAt p1.isList p2.isList (by simp; omega) hu ⟨.bl _,H,I,rfl,?_⟩
   have e:eqL xs ys = false := by
     unfold eqL
     rw [beq_eq_false_iff_ne.mpr hl,Bool.false_and]
   rw [<- e]
   exact q
end
end _L2
namespace _Srt
open PySem.W PyProof.Rows
noncomputable def Run (key:Nat -> Int) (n:Nat) {α:Type} (Q:α -> Prop):KasT α -> Prop
 | .ret a => Q a
 | .ask i j k => i < n /\ j < n /\ Run key n Q (k (decide (key i < key j)))
theorem Run.mono {key:Nat -> Int} {n:Nat} {α:Type} {Q Q':α -> Prop} (h:∀ a,Q a -> Q' a):∀ (t:KasT α),Run key n Q t -> Run key n Q' t
 | .ret a,x => h a x
 | .ask _ _ k,⟨a,b,x⟩ => ⟨a,b,Run.mono h _ x⟩
theorem Run.bind {key:Nat -> Int} {n:Nat} {α β:Type} {Q:β -> Prop} {f:α -> KasT β}:∀ (t:KasT α),Run key n (fun a => Run key n Q (f a)) t -> Run key n Q (t.bind f)
 | .ret a,x => x
 | .ask _ _ k,⟨a,b,x⟩ => ⟨a,b,Run.bind _ x⟩
theorem n1 {m f n:Nat} (h:m + (f + 1) <= n):m < n := Nat.lt_of_lt_of_le (Nat.lt_add_of_pos_right (Nat.succ_pos f)) h
theorem n2 {m f n:Nat} (h:m + (f + 1) <= n):m - 1 < n := Nat.lt_of_le_of_lt (Nat.sub_le m 1) (n1 h)
theorem n3 (m f:Nat):m + 1 + f = m + (f + 1) := by rw [Nat.add_assoc,Nat.add_comm 1 f]
theorem n3' {m f n:Nat} (h:m + (f + 1) <= n):m + 1 + f <= n := (n3 m f).symm ▸ h
theorem n4 {i m:Nat} (h:i < m + 1) (e:¬ i = m):i < m := Nat.lt_of_le_of_ne (Nat.le_of_lt_succ h) e
theorem n6 {r m f:Nat} (h:r <= m + 1 + f):r <= m + (f + 1) := n3 m f ▸ h
theorem n7 {r m f:Nat} (h:r = m + 1 + f):r = m + (f + 1) := n3 m f ▸ h
theorem n8 {i m:Nat} (a:m <= i) (b:i < m + 1):i = m := Nat.le_antisymm (Nat.le_of_lt_succ b) a
section
variable {key:Nat -> Int} {n:Nat}
structure Ord (n:Nat) (p:Array Nat):Prop where
 sz:p.size = n
 pm:p.Perm (List.toArray (List.range n))
theorem Ord.lt {p:Array Nat} (o:Ord n p) {i:Nat} (h:i < n):p.getD i 0 < n := by
 have hi:i < p.size := by rw [o.sz]; exact h
 have e:p.getD i 0 = p[i] := by simp [Array.getD,hi]
 have m:p[i] ∈ p := Array.getElem_mem hi
 have m2:p[i] ∈ (List.toArray (List.range n)) := (Array.Perm.mem_iff o.pm).mp m
 rw [e]
 simpa using m2
noncomputable def kv (key:Nat -> Int) (p:Array Nat) (i:Nat):Int := key (p.getD i 0)
theorem wy {p q:Array Nat} {i j:Nat} (h:p[i]? = q[j]?):kv key p i = kv key q j := by
 unfold kv
 rw [Array.getD_eq_getD_getElem?,Array.getD_eq_getD_getElem?,h]
theorem Ord.rev {p:Array Nat} (o:Ord n p) (i j:Nat):Ord n (kas_rev p i j) := ⟨by unfold kas_rev; rw [mirror_size]; exact o.sz,(mirror_perm _ _ _ _).trans o.pm⟩
theorem Ord.bub {p:Array Nat} (o:Ord n p) (i j:Nat):Ord n (bubble p i j) := ⟨by rw [bubble_size]; exact o.sz,(bubble_perm _ _ _).trans o.pm⟩
theorem jQ {p:Array Nat} {i j:Nat} (hj:j <= p.size) (k:Nat):kv key (kas_rev p i j) k = if i <= k /\ k < j then kv key p (i + j - 1 - k) else kv key p k := by
 have e := getElem?_mirror_all (i := i) hj k
 unfold kas_rev
 by_cases h:i <= k /\ k < j
 · rw [if_pos h] at e ⊢; exact wy e
 · rw [if_neg h] at e ⊢; exact wy e
theorem WB {p:Array Nat} {src d:Nat} (hs:src < p.size) (hd:d <= src) (k:Nat):kv key (bubble p src d) k = if k = src - d then kv key p src else if src - d < k /\ k <= src then kv key p (k - 1) else kv key p k := by
 have e := getElem?_bubble hs d hd k
 by_cases h1:k = src - d
 · rw [if_pos h1] at e ⊢; exact wy e
 · rw [if_neg h1] at e ⊢
   by_cases h2:src - d < k /\ k <= src
   · rw [if_pos h2] at e ⊢; exact wy e
   · rw [if_neg h2] at e ⊢; exact wy e
noncomputable def Up (key:Nat -> Int) (p:Array Nat) (m:Nat):Prop := ∀ i,1 <= i -> i < m -> kv key p (i - 1) <= kv key p i
noncomputable def Down (key:Nat -> Int) (p:Array Nat) (m:Nat):Prop := ∀ i,1 <= i -> i < m -> kv key p i <= kv key p (i - 1)
theorem Up.le {p:Array Nat} {m:Nat} (u:Up key p m):∀ {i j:Nat},i <= j -> j < m -> kv key p i <= kv key p j := by
 intro i j h hj
 induction j with
 | zero => (have:i = 0 := Nat.le_zero.mp h; subst this; exact Int.le_refl _)
 | succ j ih =>
   by_cases e:i = j + 1
   · subst e; exact Int.le_refl _
   · exact Int.le_trans (ih (Nat.le_of_lt_succ (Nat.lt_of_le_of_ne h e)) (Nat.lt_of_succ_lt hj)) (u (j + 1) (Nat.succ_le_succ (Nat.zero_le j)) hj)
theorem Down.le {p:Array Nat} {m:Nat} (u:Down key p m):∀ {i j:Nat},i <= j -> j < m -> kv key p j <= kv key p i := by
 intro i j h hj
 induction j with
 | zero => (have:i = 0 := Nat.le_zero.mp h; subst this; exact Int.le_refl _)
 | succ j ih =>
   by_cases e:i = j + 1
   · subst e; exact Int.le_refl _
   · exact Int.le_trans (u (j + 1) (Nat.succ_le_succ (Nat.zero_le j)) hj) (ih (Nat.le_of_lt_succ (Nat.lt_of_le_of_ne h e)) (Nat.lt_of_succ_lt hj))
theorem Zd {p:Array Nat} (o:Ord n p):∀ (f m:Nat),1 <= m -> m + f <= n -> Up key p m -> Run key n (fun r => m <= r /\ r <= m + f /\ Up key p r /\ (r = m + f \/ (r < n /\ kv key p r < kv key p (r - 1)))) (kas_asc p f m)
 | 0,m,h1,h2,u => ⟨Nat.le_refl _,Nat.le_refl _,u,.inl rfl⟩
 | f + 1,m,h1,h2,u => by
   refine ⟨o.lt (n1 h2),o.lt (n2 h2),?_⟩
   by_cases c:key (p.getD m 0) < key (p.getD (m - 1) 0)
   · rw [decide_eq_true c]; dsimp only; (try rw [if_pos rfl])
     exact ⟨Nat.le_refl _,Nat.le_add_right _ _,u,.inr ⟨n1 h2,c⟩⟩
   · rw [decide_eq_false c]; dsimp only; (try rw [if_neg Bool.false_ne_true])
     have u':Up key p (m + 1) := fun i i1 i2 => by
       by_cases e:i = m
       · subst e; exact Int.not_lt.mp c
       · exact u i i1 (n4 i2 e)
     refine Run.mono (fun r ⟨a,b,d,e⟩ => ⟨Nat.le_of_succ_le a,n6 b,d,?_⟩) _ (Zd o f (m + 1) (Nat.succ_le_succ (Nat.zero_le m)) (n3' h2) u')
     rcases e with e | e
     · exact .inl (n7 e)
     · exact .inr e
noncomputable def Flat (key:Nat -> Int) (p:Array Nat) (m q:Nat):Prop := q + 1 <= m /\ ∀ i,m - (q + 1) <= i -> i < m -> kv key p i = kv key p (m - 1)
theorem Yi {p:Array Nat} {m q:Nat} (hm:m <= p.size) (f:Flat key p m q) (k:Nat):kv key (kas_rev p (m - (q + 1)) m) k = kv key p k := by
 rw [jQ hm]
 split
 · rename_i h
   rw [f.2 k h.1 h.2,f.2 _ (by omega) (by omega)]
 · rfl
theorem qf:∀ (f:Nat) (p:Array Nat) (m q:Nat),Ord n p -> m + f <= n -> Down key p m -> Flat key p m q ->
   Run key n (fun r => Ord n r.1 /\ m <= r.2.1 /\ r.2.1 <= n /\ Down key r.1 r.2.1 /\ Flat key r.1 r.2.1 r.2.2) (kas_desc f p m q)
 | 0,p,m,q,o,h,d,fl => ⟨o,Nat.le_refl _,h,d,fl⟩
 | f + 1,p,m,q,o,h,d,fl => by
   have h1:1 <= m := Nat.le_trans (Nat.succ_le_succ (Nat.zero_le q)) fl.1
   refine ⟨o.lt (n1 h),o.lt (n2 h),?_⟩
   by_cases c:key (p.getD m 0) < key (p.getD (m - 1) 0)
   · rw [decide_eq_true c]; dsimp only; (try rw [if_pos rfl])
     by_cases hq:q > 0
     · rw [if_pos hq]
       have kr := Yi (key := key) (p := p) (m := m) (q := q) (by rw [o.sz]; exact Nat.le_of_lt (n1 h)) fl
       refine Run.mono (fun r h9 => by obtain ⟨a,b,e⟩ := h9; exact (⟨a,Nat.le_of_succ_le b,e⟩)) _ (qf f _ (m + 1) 0 (o.rev _ _) (n3' h) (fun i i1 i2 => ?_) ⟨Nat.succ_le_succ (Nat.zero_le m),fun i i1 i2 => ?_⟩)
       · rw [kr,kr]
         by_cases e:i = m
         · subst e; exact Int.le_of_lt c
         · exact d i i1 (n4 i2 e)
       · have:i = m := n8 i1 i2
         subst this; rfl
     · rw [if_neg hq]
       refine Run.mono (fun r h9 => by obtain ⟨a,b,e⟩ := h9; exact (⟨a,Nat.le_of_succ_le b,e⟩)) _ (qf f _ (m + 1) 0 o (n3' h) (fun i i1 i2 => ?_) ⟨Nat.succ_le_succ (Nat.zero_le m),fun i i1 i2 => ?_⟩)
       · by_cases e:i = m
         · subst e; exact Int.le_of_lt c
         · exact d i i1 (n4 i2 e)
       · have:i = m := n8 i1 i2
         subst this; rfl
   · rw [decide_eq_false c]; dsimp only; (try rw [if_neg Bool.false_ne_true])
     refine ⟨o.lt (n2 h),o.lt (n1 h),?_⟩
     by_cases c2:key (p.getD (m - 1) 0) < key (p.getD m 0)
     · rw [decide_eq_true c2]; dsimp only; (try rw [if_pos rfl])
       exact ⟨o,Nat.le_refl _,Nat.le_of_lt (n1 h),d,fl⟩
     · rw [decide_eq_false c2]; dsimp only; (try rw [if_neg Bool.false_ne_true])
       have ee:kv key p m = kv key p (m - 1) := Int.le_antisymm (Int.not_lt.mp c2) (Int.not_lt.mp c)
       refine Run.mono (fun r h9 => by obtain ⟨a,b,e⟩ := h9; exact (⟨a,Nat.le_of_succ_le b,e⟩)) _ (qf f _ (m + 1) (q + 1) o (n3' h) (fun i i1 i2 => ?_) ⟨Nat.succ_le_succ fl.1,fun i i1 i2 => ?_⟩)
       · by_cases e:i = m
         · subst e; rw [ee]; exact Int.le_refl _
         · exact d i i1 (n4 i2 e)
       · show kv key p i = kv key p m
         by_cases e:i = m
         · subst e; rfl
         · rw [ee]; exact fl.2 i (by rw [Nat.succ_sub_succ] at i1; exact i1) (n4 i2 e)
noncomputable def Good (key:Nat -> Int) (n:Nat) (r:Nat × Array Nat):Prop := Ord n r.2 /\ 1 <= r.1 /\ r.1 <= n /\ Up key r.2 r.1
theorem ZG {p:Array Nat} {m:Nat} (o:Ord n p) (h1:1 <= m) (h:m <= n) (d:Down key p m):Run key n (Good key n) (kas_tail3 m n p) := by
 have e9:m + (n - m) = n := Nat.add_sub_cancel' h
 refine Run.bind _ (Run.mono (fun r h9 => by obtain ⟨a,b,e,_⟩ := h9; exact (⟨o.rev _ _,Nat.le_trans h1 a,Nat.le_trans b (Nat.le_of_eq e9),e⟩)) _ (Zd (o.rev 0 m) (n - m) m h1 (Nat.le_of_eq e9) fun i i1 i2 => ?_))
 have i3:i - 1 < m := Nat.lt_of_le_of_lt (Nat.sub_le i 1) i2
 rw [jQ (by rw [o.sz]; exact h),jQ (by rw [o.sz]; exact h),if_pos ⟨Nat.zero_le _,i3⟩,if_pos ⟨Nat.zero_le _,i2⟩]
 exact d.le (Nat.sub_le_sub_left (Nat.sub_le i 1) _) (Nat.lt_of_le_of_lt (Nat.sub_le _ _) (by rw [Nat.zero_add]; exact Nat.sub_lt h1 Nat.one_pos))
theorem qD {p:Array Nat} {m:Nat} (o:Ord n p) (h1:1 <= m) (h:m + 1 <= n) (d:Down key p (m + 1)):Run key n (Good key n) (kas_descPart m n p) := by
 have fl0:Flat key p (m + 1) 0 := ⟨Nat.succ_le_succ (Nat.zero_le m),fun i i1 i2 => by
   have e:i = m := n8 i1 i2
   rw [e]; rfl⟩
 refine Run.bind _ (Run.mono (fun r ⟨a,b,c,e,f⟩ => ?_) _ (qf (n - (m + 1)) p (m + 1) 0 o (by rw [Nat.add_sub_cancel' h]; exact Nat.le_refl _) d fl0))
 by_cases q:r.2.2 > 0
 · rw [if_pos q]
   have kr := Yi (key := key) (p := r.1) (m := r.2.1) (q := r.2.2) (by rw [a.sz]; exact c) f
   exact ZG (a.rev _ _) (Nat.le_trans (Nat.succ_le_succ (Nat.zero_le m)) b) c fun i i1 i2 => by rw [kr,kr]; exact e i i1 i2
 · rw [if_neg q]
   exact ZG a (Nat.le_trans (Nat.succ_le_succ (Nat.zero_le m)) b) c e
theorem WC {p:Array Nat} (o:Ord n p) (h:1 <= n):Run key n (Good key n) (kas_count n p) := by
 refine Run.bind _ (Run.mono (fun r ⟨a,b,c,e⟩ => ?_) _ (Zd o (n - 1) 1 (Nat.le_refl _) (by rw [Nat.add_sub_cancel' h]; exact Nat.le_refl _) fun i i1 i2 => absurd i1 (Nat.not_le.mpr i2)))
 have h9:1 + (n - 1) = n := Nat.add_sub_cancel' h
 rw [h9] at b e
 by_cases q:(r == n) = true
 · rw [if_pos q]
   exact ⟨o,a,b,c⟩
 · rw [if_neg q]
   have q':r ≠ n := fun z => q (by rw [z]; exact beq_self_eq_true n)
   have e':r < n /\ kv key p r < kv key p (r - 1) := by
     rcases e with e | e
     · exact absurd e q'
     · exact e
   split
   · rename_i hr
     refine ⟨o.lt h,o.lt (Nat.lt_of_le_of_lt (Nat.sub_le r 1) e'.1),?_⟩
     by_cases c2:key (p.getD 0 0) < key (p.getD (r - 1) 0)
     · rw [decide_eq_true c2]; dsimp only; (try rw [if_pos rfl])
       exact ⟨o,a,b,c⟩
     · rw [decide_eq_false c2]; dsimp only; (try rw [if_neg Bool.false_ne_true])
       have fl:∀ i,i < r -> kv key p i = kv key p 0 := fun i hi => by
         have x1 := c.le (i := 0) (j := i) (Nat.zero_le i) hi
         have x2 := c.le (i := i) (j := r - 1) (Nat.le_sub_one_of_lt hi) (Nat.sub_lt a Nat.one_pos)
         have x3:kv key p (r - 1) <= kv key p 0 := Int.not_lt.mp c2
         exact Int.le_antisymm (Int.le_trans x2 x3) x1
       have kr:∀ k,kv key (kas_rev p 0 r) k = kv key p k := fun k => by
         rw [jQ (by rw [o.sz]; exact b)]
         split
         · rename_i hk
           rw [fl _ (Nat.lt_of_le_of_lt (Nat.sub_le _ k) (by rw [Nat.zero_add]; exact Nat.sub_lt a Nat.one_pos)),fl k hk.2]
         · rfl
       refine qD (o.rev _ _) a e'.1 fun i i1 i2 => ?_
       rw [kr,kr]
       by_cases z:i = r
       · subst z; exact Int.le_of_lt e'.2
       · rw [fl i (n4 i2 z),fl (i - 1) (Nat.lt_of_le_of_lt (Nat.sub_le i 1) (n4 i2 z))]; exact Int.le_refl _
   · have hr:r = 1 := by omega
     refine qD o a e'.1 fun i i1 i2 => ?_
     have:i = r := by omega
     subst this
     exact Int.le_of_lt e'.2
theorem mid_ {l r:Nat} (h:l < r):(l + r) / 2 < r /\ l <= (l + r) / 2 := by omega
theorem za5 {l r f m:Nat} (a:m < r) (h:r - l <= f + 1):m - l <= f := by omega
theorem za6 {l r f m:Nat} (a:l <= m) (h:r - l <= f + 1):r - (m + 1) <= f := by omega
theorem qE {p:Array Nat} {k:Nat} (o:Ord n p) (hk:k < n) (u:Up key p k):∀ (f l r:Nat),l <= r -> r <= k -> r - l <= f -> (∀ i,i < l -> kv key p i <= kv key p k) -> (∀ i,r <= i -> i < k -> kv key p k < kv key p i) ->
   Run key n (fun m => m <= k /\ (∀ i,i < m -> kv key p i <= kv key p k) /\ (∀ i,m <= i -> i < k -> kv key p k < kv key p i)) (kas_place p k f l r)
 | 0,l,r,h1,h2,h3,a,b => ⟨Nat.le_trans h1 h2,a,fun i i1 i2 => b i (Nat.le_trans (Nat.le_of_sub_eq_zero (Nat.le_zero.mp h3)) i1) i2⟩
 | f + 1,l,r,h1,h2,h3,a,b => by
   unfold kas_place
   by_cases c:l ≥ r
   · rw [if_pos c]
     exact ⟨Nat.le_trans h1 h2,a,fun i i1 i2 => b i (Nat.le_trans c i1) i2⟩
   · rw [if_neg c]
     have hm:(l + r) / 2 < r /\ l <= (l + r) / 2 := mid_ (Nat.not_le.mp c)
     have hmk := Nat.lt_of_lt_of_le hm.1 h2
     refine ⟨o.lt hk,o.lt (Nat.lt_trans hmk hk),?_⟩
     by_cases c2:key (p.getD k 0) < key (p.getD ((l + r) / 2) 0)
     · rw [decide_eq_true c2]; dsimp only; (try rw [if_pos rfl])
       refine qE o hk u f l _ hm.2 (Nat.le_of_lt hmk) (za5 hm.1 h3) a fun i i1 i2 => ?_
       exact Int.lt_of_lt_of_le c2 (u.le i1 i2)
     · rw [decide_eq_false c2]; dsimp only; (try rw [if_neg Bool.false_ne_true])
       refine qE o hk u f _ r hm.1 h2 (za6 hm.2 h3) (fun i i1 => ?_) b
       exact Int.le_trans (u.le (j := (l + r) / 2) (Nat.le_of_lt_succ i1) hmk) (Int.not_lt.mp c2)
theorem Xw:∀ (f:Nat) (p:Array Nat) (k:Nat),Ord n p -> 1 <= k -> k + f = n -> Up key p k -> Run key n (fun r => Ord n r /\ Up key r n) (kas_bin f p k)
 | 0,p,k,o,h1,h,u => by
   have:k = n := h
   subst this
   exact ⟨o,u⟩
 | f + 1,p,k,o,h1,h,u => by
   have hk:k < n := n1 (Nat.le_of_eq h)
   refine Run.bind _ (Run.mono (fun m ⟨a,b,c⟩ => ?_) _ (qE o hk u k 0 k (Nat.zero_le k) (Nat.le_refl _) (Nat.sub_le k 0) (fun i hi => absurd hi (Nat.not_lt_zero i)) fun i i1 i2 => absurd i1 (Nat.not_le.mpr i2)))
   refine Xw f _ (k + 1) (o.bub _ _) (Nat.succ_le_succ (Nat.zero_le k)) ((n3 k f).trans h) fun i i1 i2 => ?_
   rw [WB (by rw [o.sz]; exact hk) (Nat.sub_le k m),WB (by rw [o.sz]; exact hk) (Nat.sub_le k m),Nat.sub_sub_self a]
   have ik:i <= k := Nat.le_of_lt_succ i2
   have il:i - 1 < i := Nat.sub_lt i1 Nat.one_pos
   rcases Nat.lt_trichotomy i m with q | q | q
   · rw [if_neg (Nat.ne_of_lt (Nat.lt_trans il q)),if_neg (fun z => Nat.lt_asymm q (Nat.lt_trans z.1 il)),if_neg (Nat.ne_of_lt q),if_neg (fun z => Nat.lt_asymm q z.1)]
     exact u i i1 (Nat.lt_of_lt_of_le q a)
   · subst q
     rw [if_neg (Nat.ne_of_lt il),if_neg (fun z => Nat.lt_asymm il z.1),if_pos rfl]
     exact b _ il
   · rw [if_neg (show ¬ i = m from Nat.ne_of_gt q),if_pos (show m < i /\ i <= k from ⟨q,ik⟩)]
     by_cases z:i - 1 = m
     · rw [if_pos z,z]
       exact Int.le_of_lt (c m (Nat.le_refl _) (Nat.lt_of_lt_of_le q ik))
     · have w := Nat.lt_of_le_of_ne (Nat.le_sub_one_of_lt q) (Ne.symm z)
       rw [if_neg z,if_pos ⟨w,Nat.le_of_lt (Nat.lt_of_lt_of_le il ik)⟩]
       exact u (i - 1) (Nat.le_trans (Nat.succ_le_succ (Nat.zero_le m)) w) (Nat.lt_of_lt_of_le il ik)
theorem QG (h:1 <= n):Run key n (fun r => Ord n r /\ Up key r n) (kas_sort n) := by
 refine Run.bind _ (Run.mono (fun r ⟨a,b,c,d⟩ => ?_) _ (WC ⟨by simp,Array.Perm.refl _⟩ h))
 split
 · have e:max r.1 1 = r.1 := by omega
   rw [e]
   exact Xw _ _ _ a b (by omega) d
 · have e:r.1 = n := by omega
   rw [e] at d
   exact ⟨a,d⟩
end
end _Srt
namespace _L2
open PySem PySem.Spec PyProof.Rows PySem.W
noncomputable def yv (B:Int) (kz:List (Int × Int)) (i:Nat):Int := (kz.getD i (0,0)).1 * B + (kz.getD i (0,0)).2
theorem lex_lt {B a b c d:Int} (hb:0 <= b /\ b < B) (hd:0 <= d /\ d < B):(a * B + b < c * B + d) ↔ (a < c \/ (a = c /\ b < d)) := by
 have hB:0 < B := by omega
 constructor
 · intro h
   by_cases e:a = c
   · subst e; exact .inr ⟨rfl,by omega⟩
   · refine .inl ?_
     refine Int.lt_of_not_ge fun g => ?_
     have g1:c + 1 <= a := by omega
     have g2 := Int.mul_le_mul_of_nonneg_right g1 (Int.le_of_lt hB)
     rw [Int.add_mul,Int.one_mul] at g2
     omega
 · rintro (h | ⟨rfl,h⟩)
   · have g1:a + 1 <= c := by omega
     have g2 := Int.mul_le_mul_of_nonneg_right g1 (Int.le_of_lt hB)
     rw [Int.add_mul,Int.one_mul] at g2
     omega
   · omega
theorem ZH {key:Nat -> Int} {n:Nat} {α:Type} {cmp:Nat -> Nat -> (Bool -> Shared -> Prop) -> Shared -> Prop} {s:Shared} {Q:α -> Prop}
   (hc:∀ i j C,i < n -> j < n -> C (decide (key i < key j)) s -> cmp i j C s):∀ (t:KasT α),_Srt.Run key n Q t -> t.kasWp cmp (fun a s' => Q a /\ s' = s) s
 | .ret a,x => ⟨x,rfl⟩
 | .ask i j k,⟨h1,h2,x⟩ => hc i j _ h1 h2 (ZH hc _ x)
structure zar (H:Hp) (ks:List Value) (kz:List (Int × Int)):Prop where
 len:ks.length = kz.length
 at_:∀ (i:Nat) (k:Value) (z:Int × Int),ks[i]? = some k -> kz[i]? = some z -> ∃ p,k = .ref p /\ H p = some (.tup [.int z.1,.int z.2])
section
variable {X:Cx} {pins:List (Addr × Obj)} {σ:St} {H:Hp} {s:Shared}
theorem Ze (I:Inv X pins σ H s) {p:Addr} {a b:Int} (h:H p = some (.tup [.int a,.int b])):∃ (o:Obj) (n:Nat) (t u:Tok),s.heap.get? p = some o /\ o.cls = .type "tuple" /\ o.data = .seq #[.int a t,.int b u] n := by
 obtain ⟨_,its,r,⟨o,e,c,n,d⟩⟩ := I.hok p _ h
 cases r with
 | cons r1 rr =>
   cases rr with
   | cons r2 rr =>
     cases rr
     obtain ⟨t,rfl⟩ := r1
     obtain ⟨u,rfl⟩ := r2
     exact ⟨o,n,t,u,e,c,by simpa using d⟩
theorem QH (I:Inv X pins σ H s) {A:Around} {p q:Addr} {a b c d:Int} (hp:H p = some (.tup [.int a,.int b])) (hq:H q = some (.tup [.int c,.int d])) {C:Bool -> Shared -> Prop} (h:C (decide (a < c \/ (a = c /\ b < d))) s) :
   wpAny (model X.prog X.w) A (keyLt' (tuples' true) (.ref p) (.ref q)) C (fun _ _ => False) s := by
 obtain ⟨o1,n1,t1,u1,e1,_,d1⟩ := Ze I hp
 obtain ⟨o2,n2,t2,u2,e2,_,d2⟩ := Ze I hq
 refine kat_lt e1 d1 e2 d2 ?_
 show KatLex _ _ _ true _ _ [(Value.int a t1,Value.int c t2),(Value.int b u1,Value.int d u2)] 0 s
 refine kat_cons (wpAny_eqBool_int ?_)
 by_cases e:a = c
 · subst e
   rw [beq_self_eq_true]
   refine kat_yes (kat_cons (wpAny_eqBool_int ?_))
   by_cases e':b = d
   · subst e'
     rw [beq_self_eq_true]
     refine kat_yes (kat_nil ?_)
     have z:decide (a < a \/ a = a /\ b < b) = false := decide_eq_false (by omega)
     rw [z] at h
     exact h
   · rw [beq_eq_false_iff_ne.mpr e']
     refine kat_no (kat_one _ _ (lt_int ?_))
     have z:decide (a < a \/ a = a /\ b < d) = decide (b < d) := by
       rw [decide_eq_decide]; omega
     rw [z] at h
     exact h
 · rw [beq_eq_false_iff_ne.mpr e]
   refine kat_no (oneLt_int ?_)
   have z:decide (a < c \/ a = c /\ b < d) = decide (a < c) := by
     rw [decide_eq_decide]; omega
   rw [z] at h
   exact h
structure wJ (X:Cx) (pins:List (Addr × Obj)) (b:Addr):Prop where
 lo:b ≠ X.env.locals
 fs:b ∉ X.fs
 ge:b ∈ X.ex \/ X.s₀.heap.objs.size <= b
 ce:∀ x c,X.env.cells.lookup x = some c -> c ≠ b
 pi:∀ p ∈ X.pn ++ pins,p.1 ≠ b
theorem Inv.young (I:Inv X pins σ H s) {b:Addr} (hb:s.heap.objs.size <= b):wJ X pins b := by
 obtain ⟨_,a1,a2,a3,a4,a5⟩ := I.fpOk (b := b) hb (H' := fun _ => none) rfl
 exact ⟨a1,a2,a3,a4,a5⟩
theorem Inv.record (I:Inv X pins σ H s) {b:Addr} {h':Heap} (y:wJ X pins b) (hn:H b = none) (hs:Heap.SameBut b s.heap h'):Inv X pins σ H { s with heap := h' } :=
 I.turned (t' := s.toks) (fun c o nc e => (hs.2 c nc).trans e) hn y.lo y.ge y.ce y.pi
noncomputable def Yj (kS D:Addr) (ks:List Value) (e e1:Nat):List (Addr × Obj) := [(kS,seqObj "list" ks.toArray e),(D,seqObj "list" #[] e1)]
theorem Inv.sorting (I:Inv X pins σ H s) {kS D:Addr} {ks:List Value} {e e1:Nat} (yk:wJ X pins kS) (yD:wJ X pins D) (hk:s.heap.get? kS = some (seqObj "list" ks.toArray e)) (hD:s.heap.get? D = some (seqObj "list" #[] e1)) (nk:H kS = none) (nD:H D = none) :
   Inv X (pins ++ Yj kS D ks e e1) σ H s := I.pins_of fun p hp => by
 rcases List.mem_append.mp hp with hp | hp
 · exact I.pin p (List.mem_append_right _ hp)
 · rcases List.mem_cons.mp hp with rfl | hp
   · exact ⟨hk,nk,yk.lo,yk.fs,fun v z => by cases z⟩
   · obtain rfl := List.mem_singleton.mp hp
     exact ⟨hD,nD,yD.lo,yD.fs,fun v z => by cases z⟩
theorem wz {E:Value -> Shared -> Prop} {Q:Value -> Shared -> Prop} (I:Inv X pins σ H s) {l f:Addr} {xs:List V} {kz:List (Int × Int)} {B:Int} (hl:SqL X.K H l xs) (h1:0 < xs.length) (h64:xs.length < 64) (hkz:kz.length = xs.length) (hB:∀ z ∈ kz,0 <= z.2 /\ z.2 < B)
   (Good:Hp -> Prop) (hG:Good H)
   (turn:∀ (pins':List (Addr × Obj)) (i:Nat) (x:V) (v:Value) (z:Int × Int) (s':Shared) (H':Hp),xs[i]? = some x -> kz[i]? = some z -> RelV x v -> Inv X pins' σ H' s' -> Good H' ->
     wpAny (model X.prog X.w) X.A.in1.in1 (call (.ref f) [v]) (fun k s'' => ∃ p H'',k = .ref p /\ Inv X pins' σ H'' s'' /\ Good H'' /\ (∀ b o,H' b = some o -> H'' b = some o) /\ H'' p = some (.tup [.int z.1,.int z.2])) (fun _ _ => False) s')
   (q:∀ (D:Addr) (p:Array Nat) (H':Hp) (s':Shared),Good H' -> (∀ b o,H b = some o -> H' b = some o) -> H' D = none -> _Srt.Ord xs.length p -> _Srt.Up (yv B kz) p xs.length -> Inv X pins σ (upd H' D (.lst (p.toList.map fun i => xs.getD i .non))) s' -> Q (.ref D) s') :
   wpAny (model X.prog X.w) X.A (call (.builtin "sorted") [.ref l] [(Str.ofString "key",.ref f)]) Q E s := by
 obtain ⟨vs,rv,pl,hz⟩ := I.list hl
 have lv := rv.length
 have hsm:vs.length <= sizeLine := by omega
 refine call_function_entry_kw kind_sorted plain_sorted entry_sorted (ksk_s1 _ _) ?_
 unfold Builtin.«sorted»
 refine wpAny_bind (m := checkCount "sorted" 1 1 _) (wpAny_pure ?_)
 refine wpAny_bind (collect_list pl.isList ?_ hsm)
 refine wpAny_bind (wpAny_newList ?_ hsm)
 have z1:((s.heap.push (seqObj "list" #[] 0)).update s.heap.objs.size (Obj.mapSeq (· ++ vs.toArray))).objs.size = s.heap.objs.size + 1 := by rw [Heap.size_update,size_push']
 have keep1:∀ b o,s.heap.get? b = some o -> (((s.heap.push (seqObj "list" #[] 0)).update s.heap.objs.size (Obj.mapSeq (· ++ vs.toArray))).push (seqObj "list" vs.toArray 0)).get? b = some o := fun b o e => by
   have hlt:b < s.heap.objs.size := Heap.lt_size e
   rw [Heap.get?_push_ne _ _ _ (by rw [z1]; exact Nat.ne_of_lt (Nat.lt_succ_of_lt hlt)),Heap.get?_update_ne _ _ _ _ (Nat.ne_of_lt hlt),Heap.get?_push_ne _ _ _ (Nat.ne_of_lt hlt)]
   exact e
 generalize hh1:((s.heap.push (seqObj "list" #[] 0)).update s.heap.objs.size (Obj.mapSeq (· ++ vs.toArray))).push (seqObj "list" vs.toArray 0) = h1' at keep1 ⊢
 have hD1:h1'.get? (s.heap.objs.size + 1) = some (seqObj "list" vs.toArray 0) := by
   rw [<- hh1,<- z1]; exact Heap.get?_push_size _ rfl
 have hs1:s.heap.objs.size + 2 <= h1'.objs.size := by rw [<- hh1,size_push',z1]; exact Nat.le_refl _
 show wpAny _ _ _ _ _ { s with heap := h1' }
 rw [z1]
 clear hh1
 have yD:wJ X pins (s.heap.objs.size + 1) := I.young (Nat.le_succ _)
 have nD0:H (s.heap.objs.size + 1) = none := I.hok.fresh (Nat.le_succ _)
 generalize hDD:s.heap.objs.size + 1 = D at hD1 yD nD0 ⊢
 have I1:Inv X pins σ H { s with heap := h1' } := I.kept (t' := s.toks) keep1
 refine wpAny_bind (wpAny_holding (wpAny_call_entry_kw slot_list_sort ⟨_,hD1,rfl⟩ entry_list_sort ?body (ksk_l1 _ _)))
 case body =>
   show wpAny (model X.prog X.w) X.A.in1.in1 (Builtin.«list.sort» ⟨[.ref D],[(Str.ofString "key",.ref f)]⟩) _ _ _
   rw [ksk_t1]
   unfold ksk_tree
   refine wpAny_bind (listItems_at hD1 rfl ?_)
   refine wpAny_bind (listUpdate_at hD1 rfl ?_ (by rw [List.size_toArray]; omega) (Nat.zero_le _))
   have sb := Heap.SameBut.update h1' D (Obj.mapSeq fun _ => (#[]:Array Value))
   obtain ⟨e1,hD2⟩ : ∃ e1,(h1'.update D (Obj.mapSeq fun _ => (#[]:Array Value))).get? D = some (seqObj "list" #[] e1) := ⟨_,get?_update_seq hD1 fun _ => #[]⟩
   have I2 := I1.record (h' := h1'.update D (Obj.mapSeq fun _ => (#[]:Array Value))) yD nD0 sb
   have s2:(h1'.update D (Obj.mapSeq fun _ => (#[]:Array Value))).objs.size = h1'.objs.size := sb.1
   generalize h1'.update D (Obj.mapSeq fun _ => (#[]:Array Value)) = h2' at hD2 I2 s2 ⊢
   refine wpAny_bind (seqEpoch_at hD2 rfl ?_)
   refine wpAny_bind (wpAny_newTuple ?_ hsm)
   refine wpAny_bind (wpAny_newList ?_ (Nat.zero_le _))
   refine wpAny_holding ?_
   have s3:(h2'.push { cls := .type "tuple",data := .seq vs.toArray }).objs.size = h2'.objs.size + 1 := size_push' _ _
   have I3:Inv X pins σ H { s with heap := (h2'.push { cls := .type "tuple",data := .seq vs.toArray }).push { cls := .type "list",data := .seq ([]:List Value).toArray } } :=
     I2.kept (t' := s.toks) fun b o e => Heap.get?_push_of_some _ (Heap.get?_push_of_some _ e)
   have hk3:((h2'.push { cls := .type "tuple",data := .seq vs.toArray }).push { cls := .type "list",data := .seq ([]:List Value).toArray }).get? (h2'.objs.size + 1) = some (seqObj "list" ([]:List Value).toArray 0) := by
     rw [<- s3]; exact Heap.get?_push_size _ rfl
   have hD3:((h2'.push { cls := .type "tuple",data := .seq vs.toArray }).push { cls := .type "list",data := .seq ([]:List Value).toArray }).get? D = some (seqObj "list" #[] e1) := Heap.get?_push_of_some _ (Heap.get?_push_of_some _ hD2)
   have yk:wJ X pins (h2'.objs.size + 1) := I2.young (Nat.le_succ _)
   have nk0:H (h2'.objs.size + 1) = none := I2.hok.fresh (Nat.le_succ _)
   show wpAny _ _ (ksk_rest D (.ref f) false vs.toArray e1 (.ref (h2'.push { cls := .type "tuple",data := .seq vs.toArray }).objs.size)) _ _ _
   rw [s3]
   have kD:h2'.objs.size + 1 ≠ D := by
     have := Heap.lt_size hD2
     omega
   generalize h2'.objs.size + 1 = kS at hk3 yk nk0 kD ⊢
   generalize (h2'.push { cls := .type "tuple",data := .seq vs.toArray }).push { cls := .type "list",data := .seq ([]:List Value).toArray } = h3' at I3 hk3 hD3 ⊢
   unfold ksk_rest
   refine wpAny_bind (wpAny_rule ?_)
   rw [List.forIn_toArray]
   refine wpAny_bind (wpAny_mono (ksk_fold (fun i s' => ∃ (ks:List Value) (e:Nat) (H':Hp),ks.length = i /\ Inv X (pins ++ Yj kS D ks e e1) σ H' s' /\ Good H' /\ (∀ b o,H b = some o -> H' b = some o) /\
       ∀ (j:Nat) (k:Value) (z:Int × Int),ks[j]? = some k -> kz[j]? = some z -> ∃ p,k = .ref p /\ H' p = some (.tup [.int z.1,.int z.2])) vs 0 _ ?st ?turn ?done) (fun _ s' hq => hq) fun _ _ x => x)
   case st => exact ⟨[],0,H,rfl,I3.sorting yk yD hk3 hD3 nk0 nD0,hG,fun _ _ e => e,fun j k z e => by simp at e⟩
   case turn =>
     rintro j v s' hv ⟨ks,e,H',hlen,I',g',sm,kk⟩
     have hj:j < vs.length := (List.getElem?_eq_some_iff.mp hv).1
     obtain ⟨x,hx⟩ : ∃ x,xs[j]? = some x := ⟨xs[j]'(by omega),List.getElem?_eq_getElem (by omega)⟩
     obtain ⟨z,hzz⟩ : ∃ z,kz[j]? = some z := ⟨kz[j]'(by omega),List.getElem?_eq_getElem (by omega)⟩
     obtain ⟨u,hu,ru⟩ := rv.get hx
     rw [hv] at hu
     cases hu
     refine wpAny_bind (wpAny_attempt (wpAny_mono (turn _ j x v z s' H' hx hzz ru I' g') (fun k s'' hk => ?_) fun _ _ hF => hF.elim))
     obtain ⟨p,H'',rfl,I'',g'',sm',hp⟩ := hk
     have pk := I''.pin (kS,seqObj "list" ks.toArray e) (List.mem_append_right _ (List.mem_append_right _ List.mem_cons_self))
     have pD := I''.pin (D,seqObj "list" #[] e1) (List.mem_append_right _ (List.mem_append_right _ (List.mem_cons_of_mem _ List.mem_cons_self)))
     dsimp only
     refine wpAny_bind (listUpdate_at pk.1 rfl ?_ (by rw [List.size_toArray]; omega) (by rw [Array.size_push,List.size_toArray]; omega))
     have sb' := Heap.SameBut.update s''.heap kS (Obj.mapSeq (·.push (Value.ref p)))
     have ea:ks.toArray.push (Value.ref p) = (ks ++ [Value.ref p]).toArray := by simp
     obtain ⟨c2,hc2⟩ : ∃ c2,(s''.heap.update kS (Obj.mapSeq (·.push (Value.ref p)))).get? kS = some (seqObj "list" (ks ++ [Value.ref p]).toArray c2) := ⟨_,by rw [<- ea]; exact get?_update_seq pk.1 (·.push (Value.ref p))⟩
     have I4 := I''.unpinned.record yk pk.2.1 sb'
     refine wpAny_pure ⟨rfl,ks ++ [Value.ref p],c2,H'',by rw [List.length_append,hlen]; simp,I4.sorting yk yD hc2 ((sb'.2 D kD.symm).trans pD.1) pk.2.1 pD.2.1,g'',fun b o e => sm' b o (sm b o e),fun i k' z' e' ez => ?_⟩
     by_cases hi:i < ks.length
     · rw [List.getElem?_append_left hi] at e'
       obtain ⟨p',a1,a2⟩ := kk i k' z' e' ez
       exact ⟨p',a1,sm' _ _ a2⟩
     · have hi2:i < (ks ++ [Value.ref p]).length := (List.getElem?_eq_some_iff.mp e').1
       rw [List.length_append,List.length_singleton] at hi2
       have hi3:i = j := by omega
       subst hi3
       rw [hzz] at ez
       cases ez
       rw [List.getElem?_append_right (by omega)] at e'
       have e'':some (Value.ref p) = some k' := by simpa [hlen] using e'
       cases e''
       exact ⟨p,rfl,hp⟩
   case done =>
     rintro s' ⟨ks,e,H',hlen,I',g',sm,kk⟩
     rw [Nat.zero_add] at hlen
     have pk := I'.pin (kS,seqObj "list" ks.toArray e) (List.mem_append_right _ (List.mem_append_right _ List.mem_cons_self))
     have pD := I'.pin (D,seqObj "list" #[] e1) (List.mem_append_right _ (List.mem_append_right _ (List.mem_cons_of_mem _ List.mem_cons_self)))
     have I0:Inv X pins σ H' s' := I'.unpinned
     have KA:zar H' ks kz := ⟨by omega,kk⟩
     refine wpAny_bind (listItems_at pk.1 rfl ?_)
     unfold ksk_end
     dsimp only
     simp only [Bool.false_eq_true,if_false]
     -- what comes behind the runs
     have tail:∀ (st:SortSt) (p:Array Nat),arrOf st = p.map (kas_item (ks.toArray.zip vs.toArray)) -> failedOf st = none -> _Srt.Ord xs.length p -> _Srt.Up (yv B kz) p xs.length ->
         wpAny (model X.prog X.w) X.A.in1.in1 (ksk_tail D false e1 (.ref kS) st) (fun fin s'' => ∃ v,fin = .done (.ret v) /\ wpAny (model X.prog X.w) X.A.in1 (ret (.ref D)) (fun fin s3 => ∃ v,fin = .done (.ret v) /\ Q v s3) E s'') E s' := by
       intro st p ha hf po pu
       have out := kat_snds (ks := ks) (vs := vs) (by omega) ha
       unfold ksk_tail
       dsimp only
       rw [out,hf]
       have plen:(p.toList.map fun i => vs.getD i Value.none).length = vs.length := by rw [List.length_map,Array.length_toList,po.sz,lv]
       refine wpAny_bind (listUpdate_at pk.1 rfl ?_ (by rw [List.size_toArray]; omega) (Nat.zero_le _))
       have sb1 := Heap.SameBut.update s'.heap kS (Obj.mapSeq fun _ => (#[]:Array Value))
       have J1 := I0.record yk pk.2.1 sb1
       have hD4:(s'.heap.update kS (Obj.mapSeq fun _ => (#[]:Array Value))).get? D = some (seqObj "list" #[] e1) := (sb1.2 D kD.symm).trans pD.1
       generalize s'.heap.update kS (Obj.mapSeq fun _ => (#[]:Array Value)) = h5 at J1 hD4 ⊢
       refine wpAny_bind (wpAny_letGo ?_)
       refine wpAny_bind (seqEpoch_at hD4 rfl ?_)
       simp only [Bool.false_eq_true,if_false,bne_self_eq_false]
       refine wpAny_bind (listUpdate_at hD4 rfl ?_ (Nat.zero_le _) (by rw [List.size_toArray,plen]; omega))
       have sb2 := Heap.SameBut.update h5 D (Obj.mapSeq fun _ => (p.toList.map fun i => vs.getD i Value.none).toArray)
       have J2 := J1.record yD pD.2.1 sb2
       obtain ⟨c3,hD5⟩ : ∃ c3,(h5.update D (Obj.mapSeq fun _ => (p.toList.map fun i => vs.getD i Value.none).toArray)).get? D = some (seqObj "list" (p.toList.map fun i => vs.getD i Value.none).toArray c3) := ⟨_,get?_update_seq hD4 _⟩
       generalize h5.update D (Obj.mapSeq fun _ => (p.toList.map fun i => vs.getD i Value.none).toArray) = h6 at J2 hD5 ⊢
       have rel:Vals (p.toList.map fun i => xs.getD i .non) (p.toList.map fun i => vs.getD i Value.none) := by
         have:∀ (ls:List Nat),(∀ i ∈ ls,i < xs.length) -> Vals (ls.map fun i => xs.getD i .non) (ls.map fun i => vs.getD i Value.none) := by
           intro ls
           induction ls with
           | nil => intro _; exact .nil
           | cons a r ih =>
             intro h
             refine .cons ?_ (ih fun i hi => h i (List.mem_cons_of_mem _ hi))
             have ha := h a List.mem_cons_self
             have := yG rv (j := a) (by omega)
             show RelV (xs.getD a .non) (vs.getD a Value.none)
             rw [getD_at (xs := vs) (by omega:a < vs.length)]
             exact this
         refine this _ fun i hi => ?_
         have m:i ∈ p := by simpa using hi
         have m2:i ∈ (List.toArray (List.range xs.length)) := (Array.Perm.mem_iff po.pm).mp m
         simpa using m2
       have J3 := J2.track (p := D) (o := .lst (p.toList.map fun i => xs.getD i .non)) pD.2.1 (Heap.get?_none_of_le (by rw [<- hDD]; have := I.sz; omega)) yD.lo yD.ce yD.pi
         ⟨by rw [List.length_map,Array.length_toList,po.sz]; omega,_,c3,rel,hD5⟩
       refine wpAny_pure ⟨_,rfl,wpAny_pure ⟨_,rfl,q D p H' _ g' sm pD.2.1 po pu J3⟩⟩
     by_cases h2:vs.toArray.size < 2
     · rw [if_pos h2,if_pos h2]
       rw [List.size_toArray] at h2
       refine wpAny_bind (wpAny_pure ?_)
       rw [StateT.run_pure]
       refine wpAny_bind (wpAny_pure ?_)
       dsimp only
       refine tail _ (List.toArray (List.range xs.length)) ?_ rfl ⟨by simp,Array.Perm.refl _⟩ fun i i1 i2 => by omega
       show ks.toArray.zip vs.toArray = _
       have e := kas_range (ks.toArray.zip vs.toArray)
       rw [show (ks.toArray.zip vs.toArray).size = xs.length by simp; omega] at e
       exact e.symm
     · rw [if_neg h2,if_neg h2]
       rw [List.size_toArray] at h2
       -- the keys' kind
       have KT:∀ (ks':List Value) (kz':List (Int × Int)),ks'.length = kz'.length -> (∀ (j:Nat) (k:Value) (z:Int × Int),ks'[j]? = some k -> kz'[j]? = some z -> ∃ p,k = .ref p /\ H' p = some (.tup [.int z.1,.int z.2])) ->
           ∃ fs:List Value,fs.length = ks'.length /\ KatTups s'.heap ks' fs /\ ∀ v ∈ fs,∃ i t,v = Value.int i t := by
         intro ks'
         induction ks' with
         | nil => intro _ _ _; exact ⟨[],rfl,KatTups.nil,fun v hv => nomatch hv⟩
         | cons k r ih =>
           intro kz' hl' hk'
           cases kz' with
           | nil => simp at hl'
           | cons z rz =>
             obtain ⟨p,rfl,hp⟩ := hk' 0 k z rfl rfl
             obtain ⟨o,n,t,u,e1',e2',e3'⟩ := Ze I0 hp
             obtain ⟨fs,f1,f2,f3⟩ := ih rz (by simpa using hl') fun j k z a b => hk' (j + 1) k z (by simpa using a) (by simpa using b)
             refine ⟨.int z.1 t :: fs,by simp [f1],KatTups.cons e1' e2' e3' rfl f2,fun v hv => ?_⟩
             rcases List.mem_cons.mp hv with rfl | hv
             · exact ⟨_,_,rfl⟩
             · exact f3 v hv
       obtain ⟨fs,f1,f2,f3⟩ := KT ks kz KA.len KA.at_
       refine wpAny_bind (kat_kind f2 (by omega) (T := .type "int") (fun v hv => ?_) (by decide) ?_)
       · obtain ⟨i,t,rfl⟩ := f3 v hv
         exact Looks.of_pure rfl
       have hkind:(Value.type "int" != Value.type "tuple") = true := by decide
       rw [hkind]
       have run := ZH (key := yv B kz) (n := vs.length) (cmp := kas_ask X.prog X.w X.A.in1.in1 (tuples' true) ks) (s := s') (Q := fun r => _Srt.Ord vs.length r /\ _Srt.Up (yv B kz) r vs.length) (fun i j C hi hj hC => ?_) _ (_Srt.QG (n := vs.length) (by omega))
       · refine wpAny_bind (wpAny_mono (kat_run (Q := fun st' s'' => ∃ p,arrOf st' = p.map (kas_item (ks.toArray.zip vs.toArray)) /\ failedOf st' = none /\ (_Srt.Ord vs.length p /\ _Srt.Up (yv B kz) p vs.length) /\ s'' = s') (by omega) (by omega) (by omega)
           (fun p st' s'' a1 a2 a3 a4 => ⟨p,a2,a3,a4.1,a4.2⟩) run) ?_ fun _ _ x => x)
         rintro ⟨⟨⟩,st'⟩ s'' ⟨p,a2,a3,⟨a4,a5⟩,rfl⟩
         dsimp only
         rw [<- lv] at a4 a5
         exact tail st' p a2 a3 a4 a5
       · obtain ⟨ki,hki⟩ : ∃ k,ks[i]? = some k := ⟨ks[i]'(by omega),List.getElem?_eq_getElem (by omega)⟩
         obtain ⟨kj,hkj⟩ : ∃ k,ks[j]? = some k := ⟨ks[j]'(by omega),List.getElem?_eq_getElem (by omega)⟩
         obtain ⟨zi,hzi⟩ : ∃ z,kz[i]? = some z := ⟨kz[i]'(by omega),List.getElem?_eq_getElem (by omega)⟩
         obtain ⟨zj,hzj⟩ : ∃ z,kz[j]? = some z := ⟨kz[j]'(by omega),List.getElem?_eq_getElem (by omega)⟩
         obtain ⟨pi,rfl,hpi⟩ := kk i ki zi hki hzi
         obtain ⟨pj,rfl,hpj⟩ := kk j kj zj hkj hzj
         unfold kas_ask
         rw [List.getD_eq_getElem?_getD,List.getD_eq_getElem?_getD,hki,hkj]
         refine QH I0 hpi hpj ?_
         have ei:kz.getD i (0,0) = zi := by rw [List.getD_eq_getElem?_getD,hzi]; rfl
         have ej:kz.getD j (0,0) = zj := by rw [List.getD_eq_getElem?_getD,hzj]; rfl
         unfold yv at hC
         rw [ei,ej] at hC
         rw [decide_eq_decide.mpr (lex_lt (hB zi (List.mem_of_getElem? hzi)) (hB zj (List.mem_of_getElem? hzj)))] at hC
         exact hC
end
end _L2
namespace _L2
open PySem PySem.Spec PyProof.Rows PySem.W
noncomputable def CdIs (c:Addr) (qual:Str):Heap -> Prop := fun h => ∃ (o:Obj) (vs:Array Value) (t:Tok),h.get? c = some o /\ o.data = .fields vs /\ vs[1]? = some (.str qual t)
noncomputable def FnIs (f c:Addr) (qual:Str) (params:Arguments) (body:Expr) (scope:Scope):Heap -> Prop := fun h => ∃ (pm ctv:Value),h.get? f = some (kla_obj "<lambda>" qual params body scope [] pm c ctv)
theorem CdIs.ok {P:Program} {w:World} {H:Hp} {h:Heap} {c:Addr} {qual:Str} (x:CdIs c qual h):z7 P w H h c (.ext (CdIs c qual)) :=
 ⟨x,let ⟨o,_,_,e,_⟩ := x; ⟨o,e⟩,fun _ _ ⟨o,vs,t,e,d⟩ k => ⟨o,vs,t,k o e,d⟩⟩
theorem FnIs.ok {P:Program} {w:World} {H:Hp} {h:Heap} {f c:Addr} {qual:Str} {params:Arguments} {body:Expr} {scope:Scope} (x:FnIs f c qual params body scope h):z7 P w H h f (.ext (FnIs f c qual params body scope)) :=
 ⟨x,let ⟨_,_,e⟩ := x; ⟨_,e⟩,fun _ _ ⟨pm,ct,e⟩ k => ⟨pm,ct,k _ e⟩⟩
noncomputable def BMain (mg:Str -> Option Value) (base:Heap):Prop := ∃ bm ob,mg "__builtins__" = some (.ref bm) /\ bm ≠ builtinsNs /\ base.get? bm = some ob /\ ob.cls = .type "module" /\ ob.dict = some builtinsNs /\ ob.data = .plain
section
variable {X:Cx} {pins:List (Addr × Obj)} {σ:St} {H:Hp} {s:Shared}
theorem Inv.grown {h':Heap} {t':Nat} {P:Addr} {ps more:Array Value} (I:Inv X pins σ H s) (hP:H P = some (.tbl ps)) (hx:Heap.ExtBut P s.heap h') (hn:h'.get? P = some (tabObj (ps ++ more))):Inv X pins σ (upd H P (.tbl (ps ++ more))) { s with heap := h',toks := t' } := by
 have nP:∀ b,H b = none -> b ≠ P := fun b n z => by rw [z,hP] at n; cases n
 have lP:X.env.locals ≠ P := nP _ I.free
 refine I.step (g' := s.gens) (d' := s.drawn) (ch := []) (fun _ z => nomatch z) (fun b o _ _ _ e n => hx b o (nP b n) e) (fun b o _ _ _ e n => ⟨o.slots,hx b o (nP b n) e⟩) (fun b o _ _ n => by rw [zq (nP b n)]; exact n) (fun b o _ e => ?_)
   (fun b xs e => ?_) (fun b o u e => ?_) (fun b qs e => ?_) (fun m hm => ?_) (fun b u e => ?_) I.bare
 · by_cases hb:b = P
   · subst hb; exact ⟨_,hn⟩
   · exact ⟨o,hx b o hb e⟩
 · rw [zq (fun z => by rw [z,hP] at e; cases e)]; exact e
 · rw [zq (fun z => by rw [z,hP] at e; cases e)]; exact e
 · by_cases hb:b = P
   · subst hb
     rw [hP] at e
     cases e
     exact ⟨more,zd⟩
   · exact ⟨#[],by rw [zq hb,e]; simp⟩
 · obtain ⟨o,es,ep,ho,r⟩ := hm
   exact ⟨o,es,ep,hx _ o lP ho,r⟩
 · by_cases hb:b = P
   · subst hb
     rw [zd] at e
     cases e
     exact hn
   · rw [zq hb] at e
     refine (I.hok b u e).stay (fun c v hc q => hx c v ?_ q) (fun c q => ?_) fun c xs q => ?_
     · rcases hc with rfl | hc
       · exact hb
       · intro z; rw [z,hP] at hc; cases hc
     · rw [zq (fun z => by rw [z,hP] at q; cases q)]; exact q
     · rw [zq (fun z => by rw [z,hP] at q; cases q)]; exact q
noncomputable def tLam (P:Addr) (qual:Str) (params:Arguments) (body:Expr) (scope:Scope) (pos:Pos):TE := fun _ H Q => ∃ ps:Array Value,H P = some (.tbl ps) /\ TriplesOk ps.toList /\ codeAmong pos ps.toList = none /\
 ∀ f c more,H f = none -> H c = none -> f ≠ c -> Q (.ref f) (upd (upd (upd H P (.tbl (ps ++ more))) c (.ext (CdIs c qual))) f (.ext (FnIs f c qual params body scope)))
theorem zas {params:Arguments} {body:Expr} {scope:Scope} {pos:Pos} {c P:Addr} (hcode:X.env.code = .ref c) (C:CodeHd X.base c P) (hB:BMain X.mg X.base) (hcl:closureFor scope X.env = pure []) (hdef:defaultsOf params X.env = ([],[])) :
   PE X (.Lambda params body scope pos) (tLam P (X.env.qual ++ "<lambda>") params body scope pos) := by
 intro pins s σ H Q I h
 obtain ⟨ps,hP,ht,hnf,q⟩ := h
 have hPo:s.heap.get? P = some (tabObj ps) := I.hok P _ hP
 obtain ⟨bm,ob,b1,b2,b3,b4,b5,b6⟩ := hB
 have hg:s.heap.Ns mainGlobals X.mg := I.mod.glob.keeps I.bk
 have nb:∀ b o,X.base.get? b = some o -> b ≠ P := fun b o e z => by
   have := (I.bs b o e).2
   rw [z,hP] at this
   cases this
 have hgP:mainGlobals ≠ P := by
   obtain ⟨o,es,ep,e,_⟩ := I.mod.glob
   exact nb _ o e
 have hbG:bm ≠ mainGlobals := fun z => by
   obtain ⟨o,es,ep,e,hd,_⟩ := I.mod.glob
   rw [z,e] at b3
   cases b3
   rw [hd] at b6
   cases b6
 refine kla_eval hdef (kla_makeFunction (mg := X.mg) hcl I.ok.glob hg hcode (C.keeps I.bk) hPo ht hnf hgP ⟨bm,ob,b1,b2,hbG,nb _ _ b3,I.bk _ _ b3,b4,b5,b6⟩ fun c' ctv h' tk hx hge hlt hrec htb => ?_)
 have I1:Inv X pins σ (upd H P (.tbl (ps ++ #[rawInt pos.line,rawInt pos.col,.ref c']))) { s with heap := h',toks := tk } := I.grown hP hx htb
 have n1:H c' = none := I.hok.fresh hge
 have hPc:c' ≠ P := fun z => by rw [z,hP] at n1; cases n1
 have y1 := I.young hge
 have I2 := I1.kept (h' := h'.push (kla_obj "<lambda>" (X.env.qual ++ "<lambda>") params body scope [] ((X.mg "__name__").getD .none) c' ctv)) (t' := tk) fun b u e => Heap.get?_push_of_some _ e
 obtain ⟨c2,oc,vs,t,e2,hoc,hd,hv⟩ := hrec
 cases e2
 have I3 := I2.track (p := c') (o := .ext (CdIs c' (X.env.qual ++ "<lambda>"))) (by rw [zq hPc]; exact n1) (Heap.get?_none_of_le (Nat.le_trans I.sz hge)) y1.lo y1.ce y1.pi (CdIs.ok ⟨oc,vs,t,Heap.get?_push_of_some _ hoc,hd,hv⟩)
 have hge2:s.heap.objs.size <= h'.objs.size := by omega
 have n2:H h'.objs.size = none := I.hok.fresh hge2
 have hPf:h'.objs.size ≠ P := fun z => by rw [z,hP] at n2; cases n2
 have hcf:h'.objs.size ≠ c' := by omega
 have y2 := I.young hge2
 have I4 := I3.track (p := h'.objs.size) (o := .ext (FnIs h'.objs.size c' (X.env.qual ++ "<lambda>") params body scope)) (by rw [zq hcf,zq hPf]; exact n2) (Heap.get?_none_of_le (Nat.le_trans I.sz hge2)) y2.lo y2.ce y2.pi
   (FnIs.ok ⟨_,ctv,Heap.get?_push_size _ rfl⟩)
 exact ⟨.ref h'.objs.size,_,I4,rfl,q _ _ _ n2 n1 hcf⟩
theorem Yk {A:Around} {f c:Addr} {qual:Str} {params:Arguments} {body:Expr} {scope:Scope} {N ps:List Str} {us:List Value} {vs:List V} {Q:VK} (I:Inv X pins σ H s) (hA:A.frames = some X.stack) (hr:Room 1 A) (S:zC N ps scope)
   (hf:H f = some (.ext (FnIs f c qual params body scope))) (hc:H c = some (.ext (CdIs c qual))) (hb:∀ (pm ctv:Value),bindArgs (kla_fn "<lambda>" qual params body scope [] pm (.ref c) ctv) ⟨us,[]⟩ = pure (ps.zip us)) (r:Vals vs us) (hl:vs.length = ps.length)
   (h:∃ t,PE (cxOf CX0 X.prog X.w X.K X.mg X.base N qual scope f (.ref c) A X.stack s H E0).nox body t /\ t (start N vs) H Q):wpAny (model X.prog X.w) A (call (.ref f) us) (EP X pins σ Q) (fun _ _ => False) s := by
 obtain ⟨⟨pm,ctv,ho⟩,_⟩ := I.hok f _ hf
 obtain ⟨⟨oc,cs,tq,ho2,hd2,hq2⟩,_⟩ := I.hok c _ hc
 obtain ⟨t,ht,hq⟩ := h
 have e0:Env0 X.prog X.w X.K X.mg X.base A X.stack s H := ⟨hA,I.ok.mod,I.bs,Nat.le_trans I.ok.bsz I.sz,I.stack,I.stkFree,I.hok,I.bare⟩
 have hkind:∀ y ∈ ps.zip us,scope.names.lookup y.1 = some .local \/ (scope.names.lookup y.1 = some .cell /\ ((cellsFrom (s.heap.objs.size + 1) scope.names []).lookup y.1).isSome = true) := fun ⟨n,v⟩ hy => by
   rcases S.par n (List.of_mem_zip hy).1 with z | z
   · exact .inl z
   · exact .inr ⟨z,cellsFrom_some _ _ _ (.inl z)⟩
 refine wpAny_call (codeAny_mono (R := fun r s' => ∃ u,r = .ok (.ret u) /\ CE X.stack X.prog X.w H s Q u s') ?_ fun r s' hr' => ?_)
 · refine kla_callFunE hr.depth ho rfl S.co S.gen rfl ⟨c,oc,cs,tq,rfl,ho2,hd2,hq2⟩ ?_
   refine wpAny_of_eq (hb pm ctv) ?_
   refine wpAny_newFunctionEnv_cells S.kind hkind fun env he s1 x => ?_
   subst he
   refine ⟨I.nolimit.keeps x.toInCall.keep,kla_codeExpr ?_⟩
   have I1:Inv (cxOf CX0 X.prog X.w X.K X.mg X.base N qual scope f (.ref c) A X.stack s H E0) [] (start N vs) H s1 := ZE S hr.hd e0 hl r x
   refine wpAny_mono (ht [] s1 (start N vs) H Q (I1.wish _) hq) (fun u s' hs => ?_) fun _ _ z => False.elim z
   obtain ⟨v,H',J,rv,qv⟩ := hs
   exact ⟨u,rfl,v,H',J.os,J.bare,J.base,J.hok,rv,qv⟩
 · obtain ⟨u,rfl,ce⟩ := hr'
   exact I.after ce
end
end _L2
namespace _L2
open PySem PySem.Spec PyProof.Rows PySem.W Builtin.Getset_descriptor
noncomputable def yp (ea C:Addr):Heap -> Prop := fun h => ∃ o,h.get? ea = some o /\ o.cls = .ref C
theorem yp.ok {P:Program} {w:World} {H:Hp} {h:Heap} {ea C:Addr} (x:yp ea C h):z7 P w H h ea (.ext (yp ea C)) :=
 ⟨x,let ⟨o,e,_⟩ := x; ⟨o,e⟩,fun _ _ ⟨o,e,c⟩ k => ⟨o,k o e,c⟩⟩
theorem yp.ty {M:Model} {h:Heap} {ea C:Addr} (x:yp ea C h):Looks M h (typeOf (.ref ea)) (.ref C) := by
 obtain ⟨o,e,c⟩ := x
 rw [<- c]
 exact (Looks.ld e).andThen .now
section
variable {prog:Program} {w:World} {A:Around} {E:Value -> Shared -> Prop} {K:Frag} {x C:Addr}
theorem Z3 {s:Shared} {tp:Value} {R:Result -> Shared -> Prop} (X:K.In s.heap) (J:yp x C s.heap) (hm:mroIn K C (.type "object") = some true) (q:R (.ok (.ret (.ref C))) s) :
   codeAny (model prog w) A (.call (.builtin "getset_descriptor.__get__") ⟨[.builtin "object.__class__",.ref x,tp],[]⟩) R s := by
 obtain ⟨h0,g0,d0,t0,o0⟩ := s
 have LT := J.ty (M := model prog w)
 have LM := looks_mroIn (M := model prog w) X hm
 refine codeAny_call_builtin KF.slot_gs.plain KF.entry_gs ?_
 refine KF.slot_gs.check _ _ _ _ _ _ _ _ KF.type_class (KF.args_gs _ _ _) ?_
 unfold Builtin.«getset_descriptor.__get__»
 unfold descrGet
 rw [dga_obj]
 refine wpAny_bind ?_
 refine wpAny_pure ?_
 unfold descrGetter
 unfold descrCheckInstance
 unfold descrNameAndClass
 unfold isInstance
 simp only [KF.owner_class]
 repeat lk
 refine ⟨Code.quiet_builtin _ (by decide +kernel),?_⟩
 refine codeAny_builtin KF.entry_class ?_
 unfold Builtin.«object.__class__»
 unfold shownTypeOf
 repeat lk
 exact q
structure yQ (K:Frag) (C:Addr):Prop where
 ga:findIn K (.ref C) "__getattribute__" = some (some (.builtin "BaseException.__getattribute__"))
 gn:findIn K (.ref C) "__getattr__" = some none
 ha:findIn K (.ref C) "__class__" = some (some (.builtin "object.__class__"))
 hn:specialIn K (.builtin "object.__class__") "__get__" = some (some (.builtin "getset_descriptor.__get__"))
 tk:takesIn K (.builtin "object.__class__") = some true
 mo:mroIn K C (.type "object") = some true
 mb:mroIn K C (.type "BaseException") = some true
 ty:typeIn K (.ref C) = some (.type "type")
 cl:(clsIn K C).isSome = true
theorem QI {M:Model} {h:Heap} (X:K.In h) (J:yp x C h) (c:yQ K C):Looks M h (Builtin.ObjectAttr.find (.ref x) (.ref C) "__class__") (.bind (.builtin "getset_descriptor.__get__") (.builtin "object.__class__")) := by
 have L1 := looks_findIn (M := M) X c.ha
 have _L2:Looks M h (Builtin.ObjectAttr.getOf (some (.builtin "object.__class__"))) (some (.builtin "getset_descriptor.__get__")) := looks_specialIn X c.hn
 have L3 := looks_takesIn (M := M) X c.tk
 exact L1.andThen (_L2.andThen ((show Looks M h (Builtin.ObjectAttr.dataDescriptor? (some (.builtin "object.__class__")) (some (.builtin "getset_descriptor.__get__"))) (some (.builtin "getset_descriptor.__get__",.builtin "object.__class__")) from L3.andThen .now).andThen (Looks.tag .now)))
theorem WD {s:Shared} {tk:Tok} {R:Result -> Shared -> Prop} (X:K.In s.heap) (J:yp x C s.heap) (c:yQ K C) (q:R (.ok (.ret (.ref C))) s) :
   codeAny (model prog w) A (.call (.builtin "BaseException.__getattribute__") ⟨[.ref x,.str "__class__" tk],[]⟩) R s := by
 obtain ⟨h0,g0,d0,t0,o0⟩ := s
 have LT := J.ty (M := model prog w)
 have LF := QI (M := model prog w) X J c
 have LB := looks_mroIn (M := model prog w) X c.mb
 refine codeAny_call_builtin PySem.F.attr_ValueError.ga.plain PySem.F.entry_bexc_ga ?_
 have hk:builtinKind "BaseException.__getattribute__" = some .slot := by decide +kernel
 have hsp:splitId "BaseException.__getattribute__" = some ("BaseException","__getattribute__") := by decide +kernel
 have hao := PySem.F.args_bexc_ga (.ref x) (.str "__class__" tk)
 simp only [checkBuiltinCall,hk,hsp]
 refine wpAny_bind ?_
 unfold isInstance
 repeat (any_goals (first | assumption | with_reducible refine Looks.at (by assumption) ?_ | wp_step))
 refine Z3 X J c.mo ?_
 repeat (any_goals (first | assumption | wp_step))
theorem QJ {s:Shared} {Q:Option Value -> Shared -> Prop} (X:K.In s.heap) (J:yp x C s.heap) (c:yQ K C) (q:Q (some (.ref C)) { s with toks := s.toks + 1 }):wpAny (model prog w) A (getAttr? (.ref x) "__class__") Q E s := by
 obtain ⟨h0,g0,d0,t0,o0⟩ := s
 have LT := J.ty (M := model prog w)
 have L1 := looks_findIn (M := model prog w) X c.ga
 have _L2 := looks_findIn (M := model prog w) X c.gn
 have f3 := PySem.F.attr_ValueError.ga.bind (.ref x)
 have hx2:(Value.builtin "BaseException.__getattribute__" == Value.builtin "object.__getattribute__") = false := by decide +kernel
 have hx1:(onTheHeap (Value.ref C) && Value.builtin "BaseException.__getattribute__" == Value.builtin "object.__getattribute__") = false := by rw [hx2]; rfl
 unfold getAttr? getAttrBy?
 repeat (any_goals (first | assumption | with_reducible refine Looks.at (by assumption) ?_ | wp_step))
 refine WD X J c ?_
 repeat (any_goals (first | assumption | wp_step))
theorem js {s:Shared} {P:Addr} {Q:Bool -> Shared -> Prop} (X:K.In s.heap) (J:yp x C s.heap) (c:yQ K P) (hm:mroIn K C (.ref P) = some true) (q:Q true s):wpAny (model prog w) A (excMatches (.ref x) (.ref P)) Q E s := by
 obtain ⟨h0,g0,d0,t0,o0⟩ := s
 have LT := J.ty (M := model prog w)
 have LP := looks_typeIn (M := model prog w) X c.ty
 have LM := looks_mroIn (M := model prog w) X hm
 have LB := looks_mroIn (M := model prog w) X c.mb
 have LI:Looks (model prog w) h0 (isType (.ref P)) true := by
   obtain ⟨cd,hc⟩ := Option.isSome_iff_exists.mp c.cl
   unfold clsIn at hc
   split at hc
   · rename_i a1 a2 a3 a4 ho
     intro A' Q' E' s' k z
     unfold isType loadHead
     exact wpAny_bind (wpAny_loadPart (k _ _ (X _ _ ho)) (wpAny_pure z))
   · cases hc
 have LN:Looks (model prog w) h0 (isSubtype (.type "type") (.type "tuple")) false := Looks.of_pure tc_notTuple
 unfold excMatches isInstance isExcClass
 repeat lk
 exact q
theorem QK (c:yQ K C):KitX K (.ref x) (.ref C) (yp x C) where
 ty := fun _ _ _ J => J.ty
 it := fun M h X _ => by
   obtain ⟨cd,hc⟩ := Option.isSome_iff_exists.mp c.cl
   unfold clsIn at hc
   split at hc
   · rename_i a1 a2 a3 a4 ho
     intro A' Q' E' s' k z
     unfold isType loadHead
     exact wpAny_bind (wpAny_loadPart (k _ _ (X _ _ ho)) (wpAny_pure z))
   · cases hc
 ne := fun h tp dd its n sl X htp => by
   obtain ⟨cd,hc⟩ := Option.isSome_iff_exists.mp c.cl
   refine Bool.eq_false_iff.mpr fun q => ?_
   obtain rfl:C = tp := Value.ref.inj (beq_iff_eq.mp q)
   unfold clsIn at hc
   split at hc
   · rename_i a1 a2 a3 a4 ho
     have z := (X _ _ ho).symm.trans htp
     cases z
   · cases hc
 ca := fun X J k => QJ X J c k
end
end _L2
namespace _L2
open PySem PySem.Spec PyProof.Rows PySem.W
structure XQ (X:Cx) (pins:List (Addr × Obj)) (h:Heap) (H:Hp) (C ea T:Addr):Prop where
 ob:∃ (oe:Obj) (vs:Array Value) (a0:Value) (oT:Obj) (ts:Array Value),h.get? ea = some oe /\ oe.cls = .ref C /\ oe.data = .fields vs /\ vs[0]? = some a0 /\ vs[1]? = some (.ref T) /\ h.get? T = some oT /\ oT.data = .fields ts /\ ts[3]? = some .none
 ne:T ≠ ea
 fe:H ea = none
 fT:H T = none
 s0:X.s₀.heap.get? ea = none /\ X.s₀.heap.get? T = none
 lo:X.env.locals ≠ ea /\ X.env.locals ≠ T
 ce:∀ x c,X.env.cells.lookup x = some c -> c ≠ ea /\ c ≠ T
 pi:∀ p ∈ X.pn ++ pins,p.1 ≠ ea /\ p.1 ≠ T
theorem Inv.exc {X:Cx} {pins:List (Addr × Obj)} {σ:St} {H:Hp} {s:Shared} {h':Heap} {C ea T:Addr} (I:Inv X pins σ H s) (f:XQ X pins s.heap H C ea T)
   (k1:∀ b o,b ∉ frs X.stack -> b ≠ ea -> b ≠ T -> s.heap.get? b = some o -> h'.get? b = some o) (k2:∀ b o,b ∈ frs X.stack -> s.heap.get? b = some o -> ∃ sl,h'.get? b = some { o with slots := sl }) :
   Inv X pins σ H { s with heap := h' } := by
 have old:∀ b o,X.s₀.heap.get? b = some o -> b ≠ ea /\ b ≠ T /\ b ≠ X.env.locals := fun b o e =>
   ⟨(fun z => by rw [z,f.s0.1] at e; cases e),(fun z => by rw [z,f.s0.2] at e; cases e),Nat.ne_of_lt (Nat.lt_of_lt_of_le (Heap.lt_size e) I.ok.above)⟩
 have nst:∀ b,b ≠ X.env.locals -> b ∉ X.fs -> b ∉ frs X.stack := fun b n1 n2 m => (List.mem_cons.mp (I.stkSub b m)).elim n1 n2
 have sst:∀ b,b ∈ X.fs -> b ∈ frs X.stack := fun b m => by
   rcases I.ok.stk with e | ⟨e,hf⟩
   · rw [e]; exact m
   · rw [e]
     unfold frs
     rw [List.filterMap_cons,hf]
     exact List.mem_cons_of_mem _ m
 have any:∀ b o,b ≠ ea -> b ≠ T -> s.heap.get? b = some o -> ∃ sl,h'.get? b = some { o with slots := sl } := fun b o n1 n2 e => by
   by_cases hb:b ∈ frs X.stack
   · exact k2 b o hb e
   · exact ⟨o.slots,k1 b o hb n1 n2 e⟩
 have cellK:∀ x c,X.env.cells.lookup x = some c -> ∀ v,s.heap.IsCell c v -> h'.IsCell c v := fun x c e v ⟨o,ho,hd⟩ => by
   obtain ⟨sl,z⟩ := any c o (f.ce x c e).1 (f.ce x c e).2 ho
   exact ⟨_,z,hd⟩
 refine ⟨I.ok,I.os,I.bare,⟨fun b o e n hb hx => ?_,fun b o e n hb hx => ?_,I.base.free,fun b o e hx => ?_,I.base.tups,I.base.frzs,I.base.tbls⟩,?_,fun x c e => ?_,I.free,I.freeC,fun p hp => ?_,fun a o z => ?_,I.len⟩
 · obtain ⟨n1,n2,n3⟩ := old b o e
   exact k1 b o (nst b n3 hb) n1 n2 (I.base.keep b o e n hb hx)
 · obtain ⟨sl,z⟩ := I.base.slot b o e n hb hx
   obtain ⟨sl',z'⟩ := k2 b _ (sst b hb) z
   exact ⟨sl',z'⟩
 · obtain ⟨o',z⟩ := I.base.there b o e hx
   obtain ⟨n1,n2,n3⟩ := old b o e
   obtain ⟨sl,z'⟩ := any b o' n1 n2 z
   exact ⟨_,z'⟩
 · obtain ⟨m,⟨o,es,ep,ho,hd,r⟩,hl⟩ := I.loc
   obtain ⟨sl,z⟩ := any _ o f.lo.1 f.lo.2 ho
   refine ⟨m,⟨_,es,ep,z,hd,r⟩,fun i x v e1 e2 e3 => ?_⟩
   obtain ⟨u,ru,l⟩ := hl i x v e1 e2 e3
   refine ⟨u,ru,?_⟩
   rcases l with l | ⟨k,c,e,y⟩
   · exact .inl l
   · exact .inr ⟨k,c,e,cellK x c e _ y⟩
 · obtain ⟨v,y⟩ := I.cell x c e
   exact ⟨v,cellK x c e v y⟩
 · obtain ⟨e,n,n1,n2,d⟩ := I.pin p hp
   exact ⟨k1 p.1 p.2 (nst p.1 n1 n2) (f.pi p hp).1 (f.pi p hp).2 e,n,n1,n2,d⟩
 · refine (I.hok a o z).stay (fun b u hb r => ?_) (fun _ y => y) fun _ _ y => y
   have hb':∃ u',H b = some u' := by
     rcases hb with rfl | hb
     · exact ⟨_,z⟩
     · exact ⟨_,hb⟩
   obtain ⟨u',hb'⟩ := hb'
   refine k1 b u (fun m => ?_) (fun y => ?_) (fun y => ?_) r
   · rw [I.stkFree b m] at hb'; cases hb'
   · rw [y,f.fe] at hb'; cases hb'
   · rw [y,f.fT] at hb'; cases hb'
noncomputable def Cx.tr (X:Cx) (pl:List (Addr × Obj)) (Ec:Addr -> St -> Hp -> Prop):Cx :=
 { X with pn := X.pn ++ pl,xe := fun e s' => ∃ ea T C σ H,e = .ref ea /\ Inv X pl σ H s' /\ XQ X pl s'.heap H C ea T /\ Ec C σ H }
theorem Inv.tr {X:Cx} {pl:List (Addr × Obj)} {σ:St} {H:Hp} {s:Shared} (I:Inv X pl σ H s) (Ec:Addr -> St -> Hp -> Prop):Inv (X.tr pl Ec) [] σ H s :=
 ⟨⟨I.ok.mod,I.ok.kind,I.ok.glob,I.ok.blt,I.ok.above,I.ok.inj,I.ok.has,I.ok.cab,I.ok.hd,I.ok.frames,I.ok.stk,I.ok.exf,I.ok.bs,I.ok.bsz,I.ok.noex,I.ok.exfs,I.ok.funs,I.ok.frf⟩,I.os,I.bare,I.base,I.loc,I.cell,I.free,I.freeC,
   fun p hp => I.pin p (by simpa [Cx.tr] using hp),I.hok,I.len⟩
theorem Inv.untr {X:Cx} {pl pins:List (Addr × Obj)} {σ:St} {H:Hp} {s:Shared} {Ec:Addr -> St -> Hp -> Prop} (I:Inv (X.tr pl Ec) pins σ H s):Inv X pl σ H s :=
 ⟨⟨I.ok.mod,I.ok.kind,I.ok.glob,I.ok.blt,I.ok.above,I.ok.inj,I.ok.has,I.ok.cab,I.ok.hd,I.ok.frames,I.ok.stk,I.ok.exf,I.ok.bs,I.ok.bsz,I.ok.noex,I.ok.exfs,I.ok.funs,I.ok.frf⟩,I.os,I.bare,I.base,I.loc,I.cell,I.free,I.freeC,
   fun p hp => I.pin p (List.mem_append_left _ hp),I.hok,I.len⟩
noncomputable def WE (sp:Sp) (dvs:List V) (Ec:Addr -> St -> Hp -> Prop) (t:TA):TE := fun σ H Q => t σ H fun vs H1 => sp (vs ++ dvs) H1 Q fun c _ H2 => ∃ C,c = .ref C /\ Ec C σ H2
theorem QL {X:Cx} {pl:List (Addr × Obj)} {Ec:Addr -> St -> Hp -> Prop} {k:Nat} {f:Addr} {fd:FuncData} {ps:List Str} {sp:Sp} {dvs:List V} {ds:List Value} {x:Str} {p pos:Pos} {e:Expr} {es:List Expr} {t:TA}
   (F:FnOk X.prog X.w X.K X.mg X.base (CXE X.prog X.w) k f fd ps sp) (hr:Room k X.A) (hg:Gl X x) (hm:X.mg x = some (.ref f)) (hk:PySem.W.keepIn X.K (.ref f) = true) (hb:Binds X.K fd ps ds) (hd:Vals dvs ds) (hex:X.ex = [])
   (ha:PA (X.tr pl Ec) (e :: es) t) (hdb:(x == ("__debug__" : Str)) = false := by decide) (he:starEach (e :: es) X.env = (false,eval e X.env) :: starEach es X.env := by rfl) (hpl:(backTo pos (starEach es X.env)).any (·.1) = false := by rfl) :
   PE (X.tr pl Ec) (.Call (.Name x p) (e :: es) [] pos) (WE sp dvs Ec t) := by
 intro pins s σ H Q I h
 refine wpAny_Call_Name_kw (xk (X := X.tr pl Ec) I hg hm ?_ hdb)
 refine PySem.W.callWith_K (h₀ := X.base) I.ok.mod.kin hk (thn (ha pos pins s σ H _ I h) fun us s1 ⟨vs,H1,I1,r,q⟩ => ⟨I1.kIn,?_⟩) he hpl
 have r2:Vals (vs ++ dvs) (us ++ ds) := r.append hd
 have hl:(us ++ ds).length = ps.length := by rw [<- r2.length]; exact F.len _ _ _ _ q
 refine wpAny_call (codeAny_mono (F.run X.A X.stack s1 H1 ⟨us,[]⟩ (us ++ ds) (vs ++ dvs) Q _ hr I1.env0 (hb s1 us I1.kIn hl) r2 q) fun r s' hq => ?_)
 cases r with
 | ok fl =>
   cases fl with
   | ret u => exact I1.after hq
   | next => exact False.elim hq
   | brk => exact False.elim hq
   | cont => exact False.elim hq
 | error e' =>
   obtain ⟨ea,T,C,H',rfl,os,bare,un,hok,fl,C',eC,z⟩ := hq
   cases eC
   have I2:Inv (X.tr pl Ec) pins σ H' s' := I1.call' (ch := []) os un hok bare (fun b z => nomatch z)
   have lo:∀ b o,s1.heap.get? b = some o -> b ≠ ea /\ b ≠ T := fun b o e => ⟨(fun y => by rw [y,fl.ne0] at e; cases e),(fun y => by rw [y,fl.nT0] at e; cases e)⟩
   have s0n:∀ b,s1.heap.get? b = none -> X.s₀.heap.get? b = none := fun b e => by
     cases y:X.s₀.heap.get? b with
     | none => rfl
     | some o =>
       obtain ⟨o',y'⟩ := I1.base.there b o y (by show b ∉ X.ex; rw [hex]; exact fun z => nomatch z)
       rw [e] at y'
       cases y'
   refine ⟨ea,T,C,σ,H',rfl,I2.untr,⟨fl.ob,fl.ne,fl.fe,fl.fT,⟨s0n _ fl.ne0,s0n _ fl.nT0⟩,?_,fun x c e => ?_,fun p hp => ?_⟩,z⟩
   · obtain ⟨m,⟨o,_,_,ho,_⟩,_⟩ := I1.loc
     exact lo _ o ho
   · obtain ⟨v,o,ho,_⟩ := I1.cell x c e
     exact lo c o ho
   · exact lo _ _ (I1.pin p (List.mem_append_left _ hp)).1
noncomputable def Cx.su (X:Cx) (e:Value):Cx := { X with A := X.A.mark (some e),calm := false,xe := fun _ _ => False }
theorem Inv.su {X:Cx} {pins:List (Addr × Obj)} {σ:St} {H:Hp} {s:Shared} (I:Inv X pins σ H s) (e:Value):Inv (X.su e) pins σ H s :=
 ⟨⟨I.ok.mod,I.ok.kind,I.ok.glob,I.ok.blt,I.ok.above,I.ok.inj,I.ok.has,I.ok.cab,(fun z => nomatch z),I.ok.frames,I.ok.stk,I.ok.exf,I.ok.bs,I.ok.bsz,I.ok.noex,I.ok.exfs,I.ok.funs,I.ok.frf⟩,I.os,I.bare,I.base,I.loc,I.cell,I.free,I.freeC,I.pin,I.hok,I.len⟩
theorem Inv.unsu {X:Cx} {pins:List (Addr × Obj)} {σ:St} {H:Hp} {s:Shared} {e:Value} (ok:X.Ok) (I:Inv (X.su e) pins σ H s):Inv X pins σ H s :=
 ⟨ok,I.os,I.bare,I.base,I.loc,I.cell,I.free,I.freeC,I.pin,I.hok,I.len⟩
theorem Inv.unname {X:Cx} {pins:List (Addr × Obj)} {σ:St} {H:Hp} {s:Shared} {h':Heap} {t':Nat} {i:Nat} {n:Str} {v:Option Value} {m:Str -> Option Value} (I:Inv X pins σ H s) (hN:X.N.Nodup) (hi:X.N[i]? = some n)
   (hn:s.heap.Ns X.env.locals m) (hl:∀ (j:Nat) (x:Str) (w:V),X.N[j]? = some x -> σ[j]? = some (some w) -> Vis X.env.scope x -> ∃ u,RelV w u /\ Look X.env s.heap m x u) (hn':h'.Ns X.env.locals fun y => if y = n then v else m y)
   (hs:Heap.SameBut X.env.locals s.heap h'):Inv X pins (σ.set i none) H { s with heap := h',toks := t' } := by
 have old:∀ b o,X.s₀.heap.get? b = some o -> b ≠ X.env.locals := fun b o e => Nat.ne_of_lt (Nat.lt_of_lt_of_le (Heap.lt_size e) I.ok.above)
 refine ⟨I.ok,I.os,I.bare,⟨fun b o e n hb hx => (hs.2 b (old b o e)).trans (I.base.keep b o e n hb hx),fun b o e n hb hx => ?_,I.base.free,fun b o e hx => ?_,I.base.tups,I.base.frzs,I.base.tbls⟩,⟨_,hn',fun j y w e1 e2 e3 => ?_⟩,fun y c e => ?_,I.free,I.freeC,fun p hp => ?_,fun b ob e => ?_,by simpa using I.len⟩
 · obtain ⟨sl,z⟩ := I.base.slot b o e n hb hx
   exact ⟨sl,(hs.2 b (old b o e)).trans z⟩
 · obtain ⟨o',z⟩ := I.base.there b o e hx
   exact ⟨o',(hs.2 b (old b o e)).trans z⟩
 · by_cases hj:j = i
   · subst hj
     rw [List.getElem?_set] at e2
     split at e2
     · split at e2 <;> cases e2
     · exact absurd rfl (by assumption)
   · rw [List.getElem?_set_ne (Ne.symm hj)] at e2
     obtain ⟨u,ru,l⟩ := hl j y w e1 e2 e3
     have yn:y ≠ n := fun z => hj (jy hN e1 (z ▸ hi))
     refine ⟨u,ru,?_⟩
     rcases l with ⟨k,z⟩ | ⟨k,c,e,z⟩
     · exact .inl ⟨k,by show (if y = n then v else m y) = some u; rw [if_neg yn]; exact z⟩
     · exact .inr ⟨k,c,e,z.sameBut hs (I.cne y c e)⟩
 · obtain ⟨w,z⟩ := I.cell y c e
   exact ⟨w,z.sameBut hs (I.cne y c e)⟩
 · obtain ⟨e,a,b,c,d⟩ := I.pin p hp
   exact ⟨(hs.2 p.1 b).trans e,a,b,c,d⟩
 · refine (I.hok b ob e).stay (fun c w hc q => (hs.2 c ?_).trans q) (fun _ q => q) fun _ _ q => q
   intro z
   rcases hc with rfl | hc
   · rw [z,I.free] at e; cases e
   · rw [z,I.free] at hc; cases hc
noncomputable def tTry (i:Nat) (CP:Addr -> Prop) (tb:(Addr -> St -> Hp -> Prop) -> TS) (ts:TS):TS := fun D σ H =>
 tb (fun C σ1 H1 => CP C /\ ∀ ea,H1 ea = none -> ts { nx := fun σ2 H2 => D.nx (σ2.set i none) H2,rt := D.rt,bk := fun σ2 H2 => D.bk (σ2.set i none) H2,ct := fun σ2 H2 => D.ct (σ2.set i none) H2 } (σ1.set i (some (.ref ea))) (upd H1 ea (.ext (yp ea C)))) D σ H
theorem SP.untr {X:Cx} {pl pins:List (Addr × Obj)} {Ec:Addr -> St -> Hp -> Prop} {D:Ends} {f:Flow} {s':Shared} (h:SP (X.tr pl Ec) pins D f s'):SP X pl D f s' := by
 cases f with
 | next => obtain ⟨σ',H',I,q⟩ := h; exact ⟨σ',H',I.untr,q⟩
 | brk => obtain ⟨σ',H',I,q⟩ := h; exact ⟨σ',H',I.untr,q⟩
 | cont => obtain ⟨σ',H',I,q⟩ := h; exact ⟨σ',H',I.untr,q⟩
 | ret u => obtain ⟨v,σ',H',I,r,q⟩ := h; exact ⟨v,σ',H',I.untr,r,q⟩
theorem zat {X:Cx} {i:Nat} {n x:Str} {P:Addr} {body:List Stmt} {b₀:Stmt} {suite:List Stmt} {tb:(Addr -> St -> Hp -> Prop) -> TS} {ts:TS} {np hpos pos:Pos} (hst:X.stack = X.env :: X.outer) (hf:X.env.frame = some X.env.locals)
   (hN:X.N.Nodup) (hi:X.N[i]? = some n) (hlo:X.env.scope.names.lookup n = some .local) (hg:Gl X x) (hm:X.mg x = some (.ref P)) (cP:yQ X.K P) (hb:∀ pl Ec,PSs (X.tr pl Ec) body (tb Ec)) (hs:∀ e,PSs (X.su e) (b₀ :: suite) ts)
   (hd:(x == ("__debug__" : Str)) = false := by decide) :
   PS X (.Try body [.ExceptHandler (some (.Name x np)) (some n) (b₀ :: suite) hpos] [] [] pos) (tTry i (fun C => mroIn X.K C (.ref P) = some true) tb ts) := by
 intro pins s σ H D I h
 refine wpAny_Try_except ?_
 have hB := hb pins _ [] s σ H D (I.tr _) h
 refine wpAny_mono hB (fun f s1 q => ?_) fun e s1 q => ?_
 · have q' := q.untr
   cases f with
   | next =>
     obtain ⟨σ',H',I',z⟩ := q'
     exact wpAny_execs_nil ⟨σ',H',I',z⟩
   | brk => exact q'
   | cont => exact q'
   | ret u => exact q'
 obtain ⟨ea,T,C,σ1,H1,rfl,I1,fly,hC,q⟩ := q
 obtain ⟨oe,vs,a0,oT,ts',e1,e2,e3,e4,e5,e6,e7,e8⟩ := fly.ob
 have frN:∀ b ∈ frs X.stack,b ≠ ea /\ b ≠ T := fun b hb => by
   obtain ⟨_,o,ho,hnf⟩ := I1.stack.mem hb
   exact ⟨(fun z => by rw [z,e1] at ho; cases ho; exact hnf vs e3),(fun z => by rw [z,e6] at ho; cases ho; exact hnf ts' e7)⟩
 -- the heap without the frames and the exception's records
 have ff:s1.heap.FunFrames (hideAll s1.heap (ea :: T :: frs X.stack)) X.stack := I1.hid _ fun b hb => List.mem_cons_of_mem _ (List.mem_cons_of_mem _ hb)
 have fl:Heap.FlyingW (hideAll s1.heap (ea :: T :: frs X.stack)) X.stack ea (.ref C) a0 s1.heap :=
   ⟨fun b o z => of_hideAll _ z,hideAll_none _ List.mem_cons_self,ff,oe,vs,T,oT,ts',e1,⟨e2,e4⟩,e3,e5,hideAll_none _ (List.mem_cons_of_mem _ List.mem_cons_self),fly.ne,e6,e7,e8⟩
 have frA:X.A.frames = some (X.env :: X.outer) := by rw [<- hst]; exact I.ok.frames
 have back:∀ {h':Heap},Heap.StaysIn (hideAll s1.heap (ea :: T :: frs X.stack)) h' -> s1.heap.UpToSlots h' -> Inv X pins σ1 H1 { s1 with heap := h' } := fun {h'} st up => by
   refine I1.exc fly (fun b o n1 n2 n3 z => st b o (hideAll_get _ z ?_)) fun b o n1 z => ?_
   · intro m
     rcases List.mem_cons.mp m with m | m
     · exact n2 m
     · rcases List.mem_cons.mp m with m | m
       · exact n3 m
       · exact n1 m
   · obtain ⟨_,o',ho,hnf⟩ := I1.stack.mem n1
     rw [z] at ho
     cases ho
     exact up b o z hnf
 rw [hst] at fl back
 refine wpAny_looks_onW frA hf fl fun h4 held4 up4 => ?_
 refine wpAny_landsW held4 fun h5 fl5 up5 => ?_
 have I5:Inv X pins σ1 H1 { s1 with heap := h5 } := back fl5.1 (up4.trans up5)
 have J5:yp ea C h5 := by
   obtain ⟨o,z1,z2⟩ := fl5.there
   exact ⟨o,z1,z2⟩
 refine wpAny_handleBy_cons (codeAny_handlers_test (xk (X := X.su (.ref ea)) (I5.su _) hg hm ?_ hd)) (by intro z; cases z)
 refine js (K := X.K) (P := P) I5.kIn J5 cP hC ?_
 refine codeAny_handlers_suite_as ?_
 refine lands_againW fl5 fun h6 fl6 up6 => ?_
 have I6:Inv X pins σ1 H1 { s1 with heap := h6 } := back fl6.1 ((up4.trans up5).trans up6)
 have J6:yp ea C h6 := by
   obtain ⟨o,z1,z2⟩ := fl6.there
   exact ⟨o,z1,z2⟩
 have I7:Inv X pins σ1 (upd H1 ea (.ext (yp ea C))) { s1 with heap := h6 } := I6.track fly.fe fly.s0.1 fly.lo.1.symm (fun x c e => (fly.ce x c e).1) (fun p hp => (fly.pi p hp).1) J6.ok
 refine jz (X := X.su (.ref ea)) (I7.su _) hN hi (Or.inl hlo) (v := .ref ea) rfl (fun s8 I8 => ?_) (Or.inr hlo)
 refine wpAny_mono (hs _ pins s8 _ _ _ I8 (q ea fly.fe)) (fun f s9 q9 => ?_) fun _ _ z => False.elim z
 have hcls:(X.env.scope.kind == .class || (X.env.scope.kind == .module && X.env.locals != X.env.globals)) = false := by rw [I.ok.kind]; rfl
 have fin:∀ {σ9:St} {H9:Hp} {R:Unit -> Shared -> Prop},Inv (X.su (.ref ea)) pins σ9 H9 s9 -> (∀ s10,Inv X pins (σ9.set i none) H9 s10 -> R () s10) ->
     wpAny (model X.prog X.w) X.A (do bindName X.env n .none; unbindBehindTheSuite X.env n hpos) R X.xe s9 := fun {σ9 H9 R} I9 k => by
   obtain ⟨m,hn,hl⟩ := I9.loc
   exact wpAny_nameGoes_keeps hlo hn hcls fun h' v hn' hs' => k _ ((I9.unsu I.ok).unname hN hi hn hl hn' hs')
 cases f with
 | next =>
   obtain ⟨σ9,H9,I9,z⟩ := q9
   exact fin I9 fun s10 I10 => ⟨_,H9,I10,z⟩
 | brk =>
   obtain ⟨σ9,H9,I9,z⟩ := q9
   exact fin I9 fun s10 I10 => ⟨_,H9,I10,z⟩
 | cont =>
   obtain ⟨σ9,H9,I9,z⟩ := q9
   exact fin I9 fun s10 I10 => ⟨_,H9,I10,z⟩
 | ret u =>
   obtain ⟨v,σ9,H9,I9,r,z⟩ := q9
   exact fin I9 fun s10 I10 => ⟨v,_,H9,I10,r,z⟩
end _L2
namespace _L2
open PySem PySem.Spec PyProof.Rows
end _L2
namespace _L2
open PySem PySem.Spec PyProof.Rows
noncomputable def Evl (t:TE) (σ:St) (H:Hp) (v:V):Prop := ∀ Q:VK,Q v H -> t σ H Q
noncomputable def Tst (t:TT) (σ:St) (H:Hp) (p:Prop) [Decidable p]:Prop := ∀ Q:Bool -> Hp -> Prop,Q (decide p) H -> t σ H Q
section
variable {σ:St} {H:Hp} {ta tb tc:TE} {x y v:V} {i j k:Int} {K:PySem.W.Frag} {D:Ends} {n m:Nat}
theorem zc {i:Nat} (h:σ[i]? = some (some v)):Evl (tVar i) σ H v := fun Q q => ⟨v,h,q⟩
theorem zx:Evl (tC v) σ H v := fun Q q => q
theorem zY {g:Int -> Int -> V} (a:Evl ta σ H (.int i)) (b:Evl tb σ H (.int j)):Evl (tOp (rI0 g) ta tb) σ H (g i j) := fun Q q => a _ (b _ ⟨i,j,rfl,rfl,q⟩)
theorem wk {C:Int -> Int -> Prop} {g:Int -> Int -> V} (a:Evl ta σ H (.int i)) (b:Evl tb σ H (.int j)) (c:C i j):Evl (tOp (rI C g) ta tb) σ H (g i j) := fun Q q => a _ (b _ ⟨i,j,rfl,rfl,c,q⟩)
theorem XR {g:Int -> V} (a:Evl ta σ H (.int i)):Evl (tUn (rU g) ta) σ H (g i) := fun Q q => a _ ⟨i,rfl,q⟩
theorem wT (a:Evl ta σ H (.int i)) (b:Evl tb σ H (.int j)):Evl (tOp rEq ta tb) σ H (.bl (decide (i = j))) := fun Q q => a _ (b _ ⟨rfl,by
 have e:decide (V.int i = V.int j) = decide (i = j) := by
   rw [decide_eq_decide]
   exact ⟨fun z => V.int.inj z,fun z => by rw [z]⟩
 rw [e]
 exact q⟩)
theorem zL {p:Addr} {xs:List V} (a:Evl ta σ H (.ref p)) (b:Evl tb σ H (.int i)) (h:SqT K H p xs) (e:atI xs i = some v):Evl (tOp (rIxT K) ta tb) σ H v := fun Q q => a _ (b _ ⟨p,xs,i,v,rfl,rfl,h,e,q⟩)
theorem xE {p:Addr} {xs:List V} (a:Evl ta σ H (.ref p)) (b:Evl tb σ H (.int i)) (h:SqL K H p xs) (e:atI xs i = some v):Evl (tOp (rIxL K) ta tb) σ H v := fun Q q => a _ (b _ ⟨p,xs,i,v,rfl,rfl,h,e,q⟩)
theorem wA {p:Addr} {ys:List V} (a:Evl ta σ H (.ref p)) (h:SqL K H p ys):Evl (tCB (fun xs H Q => ∃ p ys,xs = [.ref p] /\ (SqL K H p ys \/ SqT K H p ys) /\ Q (.int ys.length) H) (zB ta tNil)) σ H (.int ys.length) := fun Q q => a _ ⟨p,ys,rfl,.inl h,q⟩
theorem xF {g:Int -> Int -> V} (a:Evl ta σ H (.int i)) (b:Evl tb σ H (.int j)):Evl (tCB (fun xs H Q => ∃ i j,xs = [.int i,.int j] /\ Q (g i j) H) (zB ta (zB tb tNil))) σ H (g i j) := fun Q q => a _ (b _ ⟨i,j,rfl,q⟩)
theorem WF {f g:Int -> Int -> Bool} (a:Evl ta σ H (.int i)) (b:Evl tb σ H (.int j)) (c:Evl tc σ H (.int k)):Evl (Wt (rI0 fun i j => .bl (f i j)) (rI0 fun i j => .bl (g i j)) ta tb tc) σ H (.bl (f i j && g j k)) := fun Q q => a _ (b _ ⟨i,j,rfl,rfl,_,rfl,by
 cases e:f i j with
 | true =>
   rw [if_pos rfl]
   rw [e,Bool.true_and] at q
   exact c _ ⟨j,k,rfl,rfl,q⟩
 | false =>
   rw [if_neg Bool.false_ne_true]
   rw [e,Bool.false_and] at q
   exact q⟩)
theorem xz {p q:Bool} (a:Evl ta σ H (.bl p)) (b:Evl tb σ H (.bl q)):Evl (Ji ta tb) σ H (.bl (p && q)) := fun Q z => a _ ⟨p,rfl,by
 cases p with
 | true => rw [if_pos rfl]; exact b _ z
 | false => rw [if_neg Bool.false_ne_true]; exact z⟩
theorem zZ {p:Prop} [Decidable p] (a:Evl ta σ H (.bl (decide p))):Tst (XN ta) σ H p := fun Q q => a _ ⟨_,rfl,q⟩
theorem yE {t u:TT} {p q:Prop} [Decidable p] [Decidable q] (a:Tst t σ H p) (b:Tst u σ H q):Tst (tAnd t u) σ H (p /\ q) := fun Q z => a _ (by
 by_cases h:p
 · rw [decide_eq_true h,if_pos rfl]
   refine b _ ?_
   have e:decide (p /\ q) = decide q := by rw [decide_eq_decide]; exact ⟨fun z => z.2,fun z => ⟨h,z⟩⟩
   rw [<- e]; exact z
 · rw [decide_eq_false h,if_neg Bool.false_ne_true]
   have e:decide (p /\ q) = false := decide_eq_false fun z => h z.1
   rw [<- e]; exact z)
theorem Yl {t u:TT} {p q:Prop} [Decidable p] [Decidable q] (a:Tst t σ H p) (b:Tst u σ H q):Tst (tOr t u) σ H (p \/ q) := fun Q z => a _ (by
 by_cases h:p
 · rw [decide_eq_true h,if_pos rfl]
   have e:decide (p \/ q) = true := decide_eq_true (.inl h)
   rw [<- e]; exact z
 · rw [decide_eq_false h,if_neg Bool.false_ne_true]
   refine b _ ?_
   have e:decide (p \/ q) = decide q := by rw [decide_eq_decide]; exact ⟨fun z => z.resolve_left h,.inr⟩
   rw [<- e]; exact z)
theorem Jr {t:TT} {p:Prop} [Decidable p] (a:Tst t σ H p):Tst (tNot t) σ H (¬ p) := fun Q z => a _ (by
 have e:(!decide p) = decide (¬ p) := by simp
 show Q (!decide p) H
 rw [e]; exact z)
theorem wB {t:TT} {a b:TS} {p:Prop} [Decidable p] (h:Tst t σ H p) (h1:p -> a D σ H) (h2:¬ p -> b D σ H):tIfS t a b D σ H := h _ (by
 by_cases c:p
 · rw [decide_eq_true c,if_pos rfl]; exact h1 c
 · rw [decide_eq_false c,if_neg Bool.false_ne_true]; exact h2 c)
theorem WG {t:TT} {a b u:TS} {p:Prop} [Decidable p] (h:Tst t σ H p) (h1:p -> a { D with nx := u D } σ H) (h2:¬ p -> b { D with nx := u D } σ H):tSeq (tIfS t a b) u D σ H := wB h h1 h2
theorem yx {i:Nat} {u:TS} (h:Evl ta σ H v) (q:u D (σ.set i (some v)) H):tSeq (tAsg ta (zG i)) u D σ H := h _ q
theorem qX (h:Evl ta σ H v) (q:D.rt v H):tRet ta D σ H := h _ q
theorem QM {a b c d:Nat} {p:Addr} {v1 v2 v3 v4:V} (h:Evl ta σ H (.ref p)) (t:SqT K H p [v1,v2,v3,v4]) (q:D.nx ((((σ.set a (some v1)).set b (some v2)).set c (some v3)).set d (some v4)) H) :
   tAsg ta (gTup K 4 (wb (zG a) (wb (zG b) (wb (zG c) (wb (zG d) gNil))))) D σ H := h _ ⟨p,_,rfl,t,rfl,_,_,rfl,_,_,rfl,_,_,rfl,_,_,rfl,rfl,q⟩
theorem wC {a b c d:Nat} {p:Addr} {v1 v2 v3 v4:V} {u:TS} (h:Evl ta σ H (.ref p)) (t:SqT K H p [v1,v2,v3,v4]) (q:u D ((((σ.set a (some v1)).set b (some v2)).set c (some v3)).set d (some v4)) H) :
   tSeq (tAsg ta (gTup K 4 (wb (zG a) (wb (zG b) (wb (zG c) (wb (zG d) gNil)))))) u D σ H := QM h t q
theorem Ym {t1 t2 t3 t4:TE} {v1 v2 v3 v4:V} {Q:VK} (h1:Evl t1 σ H v1) (h2:Evl t2 σ H v2) (h3:Evl t3 σ H v3) (h4:Evl t4 σ H v4) (q:∀ p,H p = none -> Q (.ref p) (upd H p (.tup [v1,v2,v3,v4]))) :
   tTup (zB t1 (zB t2 (zB t3 (zB t4 tNil)))) σ H Q := h1 _ (h2 _ (h3 _ (h4 _ ⟨by show 4 <= sizeLine; decide,q⟩)))
theorem zN {t1 t2 t3 t4:TE} {tr:TA} {v1 v2 v3 v4:V} {Q:List V -> Hp -> Prop} (h1:Evl t1 σ H v1) (h2:Evl t2 σ H v2) (h3:Evl t3 σ H v3) (h4:Evl t4 σ H v4) (q:∀ p,H p = none -> tr σ (upd H p (.tup [v1,v2,v3,v4])) fun xs H2 => Q (.ref p :: xs) H2) :
   zB (tTup (zB t1 (zB t2 (zB t3 (zB t4 tNil))))) tr σ H Q := Ym (Q := fun x H1 => tr σ H1 fun xs H2 => Q (x :: xs) H2) h1 h2 h3 h4 q
theorem Yn {t:TA} (h:t σ H fun xs H1 => xs.length <= sizeLine /\ ∀ p,H1 p = none -> D.rt (.ref p) (upd H1 p (.lst xs))):tRet (tLst t) D σ H := h
theorem wD (h:D.nx σ H):Jj D σ H := h
end
end _L2
namespace _Til
structure Bx where
 l:Int
 t:Int
 r:Int
 b:Int
deriving DecidableEq
noncomputable def inB (b:Bx) (x y:Int):Bool := decide (b.l <= x) && decide (x < b.r) && decide (b.t <= y) && decide (y < b.b)
theorem zT {b:Bx} {x y:Int}:inB b x y = true ↔ b.l <= x /\ x < b.r /\ b.t <= y /\ y < b.b := by
 simp [inB,and_assoc]
noncomputable def cnt (bs:List Bx) (x y:Int):Nat := bs.countP (inB · x y)
theorem cnt_nil (x y:Int):cnt [] x y = 0 := rfl
theorem cnt_cons (b:Bx) (bs:List Bx) (x y:Int):cnt (b :: bs) x y = cnt bs x y + (inB b x y).toNat := by
 unfold cnt
 rw [List.countP_cons]
 cases inB b x y <;> rfl
theorem cnt_append (as bs:List Bx) (x y:Int):cnt (as ++ bs) x y = cnt as x y + cnt bs x y := by
 unfold cnt
 rw [List.countP_append]
structure Ok (n m:Int) (b:Bx):Prop where
 h0:0 <= b.l
 h1:b.l < b.r
 h2:b.r <= n
 v0:0 <= b.t
 v1:b.t < b.b
 v2:b.b <= m
structure z0 (bs:List Bx) (n m:Int):Prop where
 wf:∀ b ∈ bs,Ok n m b
 one:∀ x y,0 <= x -> x < n -> 0 <= y -> y < m -> cnt bs x y = 1
theorem Xb {n m:Int} (hn:0 < n) (hm:0 < m):z0 [⟨0,0,n,m⟩] n m := by
 refine ⟨fun b hb => ?_,fun x y h1 h2 h3 h4 => ?_⟩
 · obtain rfl := List.mem_singleton.mp hb
   exact ⟨Int.le_refl 0,hn,Int.le_refl n,Int.le_refl 0,hm,Int.le_refl m⟩
 · have e:inB ⟨0,0,n,m⟩ x y = true := zT.mpr ⟨h1,h2,h3,h4⟩
   rw [cnt_cons,e]
   rfl
theorem qg {bs nb:List Bx} {n m:Int} {i:Nat} {b:Bx} (T:z0 bs n m) (hi:bs[i]? = some b) (wf:∀ c ∈ nb,Ok n m c)
   (hc:∀ x y,cnt nb x y = (inB b x y).toNat):z0 (bs.take i ++ bs.drop (i + 1) ++ nb) n m := by
 have e:bs = bs.take i ++ b :: bs.drop (i + 1) := by
   obtain ⟨h,e⟩ := List.getElem?_eq_some_iff.mp hi
   rw [<- e,List.getElem_cons_drop,List.take_append_drop]
 refine ⟨fun c hc' => ?_,fun x y h1 h2 h3 h4 => ?_⟩
 · rcases List.mem_append.mp hc' with h | h
   · rcases List.mem_append.mp h with h | h
     · exact T.wf c (List.mem_of_mem_take h)
     · exact T.wf c (List.mem_of_mem_drop h)
   · exact wf c h
 · have q := T.one x y h1 h2 h3 h4
   rw [e,cnt_append,cnt_cons] at q
   rw [cnt_append,cnt_append,hc]
   omega
theorem ZI (p:Prop) [Decidable p]:(decide p).toNat = if p then 1 else 0 := by
 by_cases h:p <;> simp [h]
theorem wU (b:Bx) (x y:Int):(inB b x y).toNat = if b.l <= x /\ x < b.r /\ b.t <= y /\ y < b.b then 1 else 0 := by
 rw [<- ZI]
 congr 1
 by_cases h:inB b x y = true
 · rw [h]; exact (decide_eq_true (zT.mp h)).symm
 · rw [decide_eq_false fun z => h (zT.mpr z)]
   simpa using h
theorem ifc {p q:Prop} [Decidable p] [Decidable q] (h:p ↔ q):(if p then 1 else 0:Nat) = if q then 1 else 0 := by
 by_cases a:p
 · rw [if_pos a,if_pos (h.mp a)]
 · rw [if_neg a,if_neg fun z => a (h.mpr z)]
theorem WH {l t r b x:Int} (h1:l < x) (h2:x < r) (u v:Int):cnt [⟨l,t,x,b⟩,⟨x,t,r,b⟩] u v = (inB ⟨l,t,r,b⟩ u v).toNat := by
 simp only [cnt_cons,cnt_nil,wU]
 by_cases c:u < x
 · rw [if_neg (fun z => Int.not_le.mpr c z.1),Nat.zero_add]
   exact ifc ⟨fun ⟨a,_,d⟩ => ⟨a,Int.lt_trans c h2,d⟩,fun ⟨a,_,d⟩ => ⟨a,c,d⟩⟩
 · rw [if_neg (c := l <= u /\ u < x /\ _) (fun z => c z.2.1),Nat.zero_add,Nat.add_zero]
   exact ifc ⟨fun ⟨a,d⟩ => ⟨Int.le_trans (Int.le_of_lt h1) a,d⟩,fun ⟨_,d⟩ => ⟨Int.not_lt.mp c,d⟩⟩
theorem WI {l t r b y:Int} (h1:t < y) (h2:y < b) (u v:Int):cnt [⟨l,t,r,y⟩,⟨l,y,r,b⟩] u v = (inB ⟨l,t,r,b⟩ u v).toNat := by
 simp only [cnt_cons,cnt_nil,wU]
 by_cases c:v < y
 · rw [if_neg (fun z => Int.not_le.mpr c z.2.2.1),Nat.zero_add]
   exact ifc ⟨fun ⟨a,e,d,_⟩ => ⟨a,e,d,Int.lt_trans c h2⟩,fun ⟨a,e,d,_⟩ => ⟨a,e,d,c⟩⟩
 · rw [if_neg (c := l <= u /\ u < r /\ t <= v /\ v < y) (fun z => c z.2.2.2),Nat.zero_add,Nat.add_zero]
   exact ifc ⟨fun ⟨a,e,d,f⟩ => ⟨a,e,Int.le_trans (Int.le_of_lt h1) d,f⟩,fun ⟨a,e,_,f⟩ => ⟨a,e,Int.not_lt.mp c,f⟩⟩
theorem WJ {n m l t r b x:Int} (o:Ok n m ⟨l,t,r,b⟩) (h1:l < x) (h2:x < r):∀ c ∈ [(⟨l,t,x,b⟩ : Bx),⟨x,t,r,b⟩],Ok n m c := by
 obtain ⟨a1,a2,a3,a4,a5,a6⟩ := o
 dsimp only at a1 a2 a3 a4 a5 a6
 intro c hc
 simp only [List.mem_cons,List.not_mem_nil,or_false] at hc
 rcases hc with rfl | rfl <;> constructor <;> dsimp only <;> omega
theorem WK {n m l t r b y:Int} (o:Ok n m ⟨l,t,r,b⟩) (h1:t < y) (h2:y < b):∀ c ∈ [(⟨l,t,r,y⟩ : Bx),⟨l,y,r,b⟩],Ok n m c := by
 obtain ⟨a1,a2,a3,a4,a5,a6⟩ := o
 dsimp only at a1 a2 a3 a4 a5 a6
 intro c hc
 simp only [List.mem_cons,List.not_mem_nil,or_false] at hc
 rcases hc with rfl | rfl <;> constructor <;> dsimp only <;> omega
noncomputable def qG (l t r b x y u v:Int):List Bx := [⟨l,t,u,y⟩,⟨u,t,r,v⟩,⟨x,v,r,b⟩,⟨l,y,x,b⟩,⟨x,y,u,v⟩]
noncomputable def qH (l t r b x y u v:Int):List Bx := [⟨x,t,r,y⟩,⟨u,y,r,b⟩,⟨l,v,u,b⟩,⟨l,t,x,v⟩,⟨x,y,u,v⟩]
theorem qY {l t r b x:Int} (h1:l < x) (h2:x < r) (u v:Int):(inB ⟨l,t,x,b⟩ u v).toNat + (inB ⟨x,t,r,b⟩ u v).toNat = (inB ⟨l,t,r,b⟩ u v).toNat := by
 have := WH (t := t) (b := b) h1 h2 u v
 simp only [cnt_cons,cnt_nil] at this
 omega
theorem qZ {l t r b y:Int} (h1:t < y) (h2:y < b) (u v:Int):(inB ⟨l,t,r,y⟩ u v).toNat + (inB ⟨l,y,r,b⟩ u v).toNat = (inB ⟨l,t,r,b⟩ u v).toNat := by
 have := WI (l := l) (r := r) h1 h2 u v
 simp only [cnt_cons,cnt_nil] at this
 omega
theorem Xc {l t r b x y u v:Int} (h1:l < x) (h2:x < u) (h3:u < r) (h4:t < y) (h5:y < v) (h6:v < b) (p q:Int) :
   cnt (qG l t r b x y u v) p q = (inB ⟨l,t,r,b⟩ p q).toNat := by
 have e1 := qZ (l := l) (r := r) h4 (Int.lt_trans h5 h6) p q
 have e2 := qY (t := t) (b := y) (Int.lt_trans h1 h2) h3 p q
 have e3 := qY (t := y) (b := b) h1 (Int.lt_trans h2 h3) p q
 have e4 := qZ (l := x) (r := r) h5 h6 p q
 have e5 := qY (t := y) (b := v) h2 h3 p q
 have e6 := qZ (l := u) (r := r) h4 h5 p q
 simp only [qG,cnt_cons,cnt_nil]
 clear h1 h2 h3 h4 h5 h6
 omega
theorem Xd {l t r b x y u v:Int} (h1:l < x) (h2:x < u) (h3:u < r) (h4:t < y) (h5:y < v) (h6:v < b) (p q:Int) :
   cnt (qH l t r b x y u v) p q = (inB ⟨l,t,r,b⟩ p q).toNat := by
 have e1 := qZ (l := l) (r := r) h4 (Int.lt_trans h5 h6) p q
 have e2 := qY (t := t) (b := y) h1 (Int.lt_trans h2 h3) p q
 have e3 := qY (t := y) (b := b) (Int.lt_trans h1 h2) h3 p q
 have e4 := qZ (l := l) (r := u) h5 h6 p q
 have e5 := qY (t := y) (b := v) h1 h2 p q
 have e6 := qZ (l := l) (r := x) h4 h5 p q
 simp only [qH,cnt_cons,cnt_nil]
 clear h1 h2 h3 h4 h5 h6
 omega
theorem WL {n m l t r b x y u v:Int} (o:Ok n m ⟨l,t,r,b⟩) (h1:l < x) (h2:x < u) (h3:u < r) (h4:t < y) (h5:y < v) (h6:v < b):∀ c ∈ qG l t r b x y u v,Ok n m c := by
 obtain ⟨a1,a2,a3,a4,a5,a6⟩ := o
 dsimp only at a1 a2 a3 a4 a5 a6
 intro c hc
 simp only [qG,List.mem_cons,List.not_mem_nil,or_false] at hc
 have lu := Int.lt_trans h1 h2
 have xr := Int.lt_trans h2 h3
 have tv := Int.lt_trans h4 h5
 have yb := Int.lt_trans h5 h6
 have x0 := Int.le_trans a1 (Int.le_of_lt h1)
 have u0 := Int.le_trans a1 (Int.le_of_lt lu)
 have y0 := Int.le_trans a4 (Int.le_of_lt h4)
 have v0 := Int.le_trans a4 (Int.le_of_lt tv)
 have xn := Int.le_trans (Int.le_of_lt xr) a3
 have un := Int.le_trans (Int.le_of_lt h3) a3
 have ym := Int.le_trans (Int.le_of_lt yb) a6
 have vm := Int.le_trans (Int.le_of_lt h6) a6
 rcases hc with rfl | rfl | rfl | rfl | rfl
 · exact ⟨a1,lu,un,a4,h4,ym⟩
 · exact ⟨u0,h3,a3,a4,tv,vm⟩
 · exact ⟨x0,xr,a3,v0,h6,a6⟩
 · exact ⟨a1,h1,xn,y0,yb,a6⟩
 · exact ⟨x0,h2,un,y0,h5,vm⟩
theorem WM {n m l t r b x y u v:Int} (o:Ok n m ⟨l,t,r,b⟩) (h1:l < x) (h2:x < u) (h3:u < r) (h4:t < y) (h5:y < v) (h6:v < b):∀ c ∈ qH l t r b x y u v,Ok n m c := by
 obtain ⟨a1,a2,a3,a4,a5,a6⟩ := o
 dsimp only at a1 a2 a3 a4 a5 a6
 intro c hc
 simp only [qH,List.mem_cons,List.not_mem_nil,or_false] at hc
 have lu := Int.lt_trans h1 h2
 have xr := Int.lt_trans h2 h3
 have tv := Int.lt_trans h4 h5
 have yb := Int.lt_trans h5 h6
 have x0 := Int.le_trans a1 (Int.le_of_lt h1)
 have u0 := Int.le_trans a1 (Int.le_of_lt lu)
 have y0 := Int.le_trans a4 (Int.le_of_lt h4)
 have v0 := Int.le_trans a4 (Int.le_of_lt tv)
 have xn := Int.le_trans (Int.le_of_lt xr) a3
 have un := Int.le_trans (Int.le_of_lt h3) a3
 have ym := Int.le_trans (Int.le_of_lt yb) a6
 have vm := Int.le_trans (Int.le_of_lt h6) a6
 rcases hc with rfl | rfl | rfl | rfl | rfl
 · exact ⟨x0,xr,a3,a4,h4,ym⟩
 · exact ⟨u0,h3,a3,y0,yb,a6⟩
 · exact ⟨a1,lu,un,v0,h6,a6⟩
 · exact ⟨a1,h1,xn,a4,tv,vm⟩
 · exact ⟨x0,h2,un,y0,h5,vm⟩
noncomputable def cntI (p:Nat -> Bool):Nat -> Nat
 | 0 => 0
 | i + 1 => cntI p i + (p i).toNat
theorem qh {p q:Nat -> Bool}:∀ (i:Nat),(∀ k,k < i -> p k = q k) -> cntI p i = cntI q i
 | 0,_ => rfl
 | i + 1,h => by
   show cntI p i + (p i).toNat = cntI q i + (q i).toNat
   rw [qh i fun k hk => h k (Nat.lt_succ_of_lt hk),h i (Nat.lt_succ_self i)]
theorem jt (m i:Nat):(if m < i + 1 then 1 else 0) = (if m < i then 1 else 0) + (if m = i then 1 else 0) := by
 by_cases a:m < i
 · rw [if_pos a,if_pos (Nat.lt_succ_of_lt a),if_neg (Nat.ne_of_lt a)]
 · by_cases c:m = i
   · rw [if_neg a,if_pos c,if_pos (by rw [c]; exact Nat.lt_succ_self i)]
   · rw [if_neg a,if_neg c,if_neg (fun z => (Nat.lt_or_eq_of_le (Nat.le_of_lt_succ z)).elim a c)]
theorem jB {p:Nat -> Bool} {j k:Nat} (hj:p j = true) (hk:p k = true) (h:j ≠ k):∀ i,(if j < i then 1 else 0) + (if k < i then 1 else 0) <= cntI p i
 | 0 => Nat.le_refl 0
 | i + 1 => by
   have ih := jB hj hk h i
   have this:(if j = i then 1 else 0) + (if k = i then 1 else 0) <= (p i).toNat := by
     by_cases a:j = i
     · subst a
       rw [hj,if_pos rfl,if_neg (Ne.symm h)]
       exact Nat.le_refl 1
     · by_cases c:k = i
       · subst c
         rw [hk,if_neg a,if_pos rfl]
         exact Nat.le_refl 1
       · rw [if_neg a,if_neg c]
         exact Nat.zero_le _
   show _ <= cntI p i + (p i).toNat
   rw [jt j,jt k,Nat.add_add_add_comm]
   exact Nat.add_le_add ih this
theorem Xx (j:Nat):∀ i,cntI (fun k => decide (k = j)) i = if j < i then 1 else 0
 | 0 => rfl
 | i + 1 => by
   show cntI _ i + (decide (i = j)).toNat = _
   rw [Xx j i,ZI]
   repeat' split
   all_goals omega
noncomputable def atB (bs:List Bx) (x y:Int) (k:Nat):Bool := match bs[k]? with
 | some b => inB b x y
 | none => false
theorem Yo (bs:List Bx) (x y:Int):∀ i,i <= bs.length -> cnt (bs.take i) x y = cntI (atB bs x y) i
 | 0,_ => rfl
 | i + 1,h => by
   have hi:i < bs.length := h
   rw [<- List.take_append_getElem hi,cnt_append,Yo bs x y i (Nat.le_of_lt hi),cnt_cons,cnt_nil]
   show _ = cntI _ i + (atB bs x y i).toNat
   have e:atB bs x y i = inB bs[i] x y := by unfold atB; rw [List.getElem?_eq_getElem hi]
   rw [e]
   omega
theorem Zf (bs:List Bx) (x y:Int):cnt bs x y = cntI (atB bs x y) bs.length := by
 have h := Yo bs x y bs.length (Nat.le_refl _)
 rwa [List.take_length] at h
theorem wE {bs:List Bx} {x y:Int} {k:Nat} {b:Bx} (h:bs[k]? = some b):atB bs x y k = inB b x y := by unfold atB; rw [h]
theorem z0.apart {bs:List Bx} {n m:Int} (T:z0 bs n m) {i j:Nat} {b c:Bx} (hi:bs[i]? = some b) (hj:bs[j]? = some c) (hne:i ≠ j) :
   b.r <= c.l \/ c.r <= b.l \/ b.b <= c.t \/ c.b <= b.t := by
 have ob := T.wf b (List.mem_of_getElem? hi)
 have oc := T.wf c (List.mem_of_getElem? hj)
 obtain ⟨a1,a2,a3,a4,a5,a6⟩ := ob
 obtain ⟨c1,c2,c3,c4,c5,c6⟩ := oc
 have li:i < bs.length := (List.getElem?_eq_some_iff.mp hi).1
 have lj:j < bs.length := (List.getElem?_eq_some_iff.mp hj).1
 by_cases h1:b.r <= c.l
 · exact .inl h1
 by_cases h2:c.r <= b.l
 · exact .inr (.inl h2)
 by_cases h3:b.b <= c.t
 · exact .inr (.inr (.inl h3))
 by_cases h4:c.b <= b.t
 · exact .inr (.inr (.inr h4))
 exfalso
 have main:∀ x y:Int,b.l <= x -> c.l <= x -> x < b.r -> x < c.r -> b.t <= y -> c.t <= y -> y < b.b -> y < c.b -> False := by
   intro x y x1 x2 x3 x4 y1 y2 y3 y4
   have q := T.one x y (by omega) (by omega) (by omega) (by omega)
   rw [Zf] at q
   have z := jB (p := atB bs x y) (j := i) (k := j) (by rw [wE hi]; exact zT.mpr ⟨x1,x3,y1,y3⟩) (by rw [wE hj]; exact zT.mpr ⟨x2,x4,y2,y4⟩) hne bs.length
   rw [if_pos li,if_pos lj] at z
   omega
 by_cases p:b.l <= c.l <;> by_cases q:b.t <= c.t
 · exact main c.l c.t (by omega) (by omega) (by omega) (by omega) (by omega) (by omega) (by omega) (by omega)
 · exact main c.l b.t (by omega) (by omega) (by omega) (by omega) (by omega) (by omega) (by omega) (by omega)
 · exact main b.l c.t (by omega) (by omega) (by omega) (by omega) (by omega) (by omega) (by omega) (by omega)
 · exact main b.l b.t (by omega) (by omega) (by omega) (by omega) (by omega) (by omega) (by omega) (by omega)
noncomputable def strip (B:Bx) (w:Nat):Bx := match w with
 | 0 => ⟨B.r,B.t,B.r + 1,B.b⟩
 | 1 => ⟨B.l - 1,B.t,B.l,B.b⟩
 | 2 => ⟨B.l,B.b,B.r,B.b + 1⟩
 | _ => ⟨B.l,B.t - 1,B.r,B.t⟩
noncomputable def hit (S b:Bx):Prop := b.l < S.r /\ S.l < b.r /\ b.t < S.b /\ S.t < b.b
noncomputable instance (S b:Bx):Decidable (hit S b) := by unfold hit; exact inferInstance
noncomputable def bad (B b:Bx) (w:Nat):Prop := (w < 2 /\ (b.t < B.t \/ B.b < b.b)) \/ (1 < w /\ (b.l < B.l \/ B.r < b.r))
noncomputable instance (B b:Bx) (w:Nat):Decidable (bad B b w) := by unfold bad; exact inferInstance
noncomputable def trim (S b:Bx) (w:Nat):Bx := match w with
 | 0 => ⟨S.r,b.t,b.r,b.b⟩
 | 1 => ⟨b.l,b.t,S.l,b.b⟩
 | 2 => ⟨b.l,S.b,b.r,b.b⟩
 | _ => ⟨b.l,b.t,b.r,S.t⟩
noncomputable def join (S b:Bx):Bx := ⟨min b.l S.l,min b.t S.t,max b.r S.r,max b.b S.b⟩
noncomputable def newB (at_:Nat) (S:Bx) (w k:Nat) (b:Bx):Bx := if k = at_ then join S b else if hit S b then trim S b w else b
noncomputable def full (b:Bx):Prop := b.l < b.r /\ b.t < b.b
noncomputable instance (b:Bx):Decidable (full b) := by unfold full; exact inferInstance
noncomputable def one (at_:Nat) (S:Bx) (w k:Nat) (b:Bx):List Bx := if full (newB at_ S w k b) then [newB at_ S w k b] else []
noncomputable def grTo (bs:List Bx) (at_:Nat) (S:Bx) (w:Nat):Nat -> List Bx
 | 0 => []
 | i + 1 => grTo bs at_ S w i ++ (match bs[i]? with | some b => one at_ S w i b | none => [])
theorem ZJ {bs:List Bx} {at_:Nat} {S:Bx} {w i:Nat} {b:Bx} (h:bs[i]? = some b):grTo bs at_ S w (i + 1) = grTo bs at_ S w i ++ one at_ S w i b := by
 show grTo bs at_ S w i ++ (match bs[i]? with | some b => one at_ S w i b | none => []) = _
 rw [h]
theorem Js (at_:Nat) (S:Bx) (w k:Nat) (b:Bx):(one at_ S w k b).length <= 1 := by unfold one; split <;> simp
theorem jC (bs:List Bx) (at_:Nat) (S:Bx) (w:Nat):∀ i,(grTo bs at_ S w i).length <= i
 | 0 => Nat.le_refl _
 | i + 1 => by
   have ih := jC bs at_ S w i
   show (grTo bs at_ S w i ++ _).length <= _
   rw [List.length_append]
   cases bs[i]? with
   | none => simp; omega
   | some b => have := Js at_ S w i b; simp only; omega
theorem Jt (at_:Nat) (S:Bx) (w k:Nat) (b:Bx) (x y:Int):cnt (one at_ S w k b) x y = (inB (newB at_ S w k b) x y).toNat := by
 unfold one
 by_cases h:full (newB at_ S w k b)
 · rw [if_pos h,cnt_cons,cnt_nil]; omega
 · rw [if_neg h,cnt_nil,wU,if_neg]
   intro ⟨h1,h2,h3,h4⟩
   exact h ⟨by omega,by omega⟩
noncomputable def atN (bs:List Bx) (at_:Nat) (S:Bx) (w:Nat) (x y:Int) (k:Nat):Bool := match bs[k]? with
 | some b => inB (newB at_ S w k b) x y
 | none => false
theorem Yp (bs:List Bx) (at_:Nat) (S:Bx) (w:Nat) (x y:Int):∀ i,cnt (grTo bs at_ S w i) x y = cntI (atN bs at_ S w x y) i
 | 0 => rfl
 | i + 1 => by
   show cnt (grTo bs at_ S w i ++ _) x y = cntI _ i + (atN bs at_ S w x y i).toNat
   rw [cnt_append,Yp bs at_ S w x y i]
   unfold atN
   cases bs[i]? with
   | none => rfl
   | some b => simp only; rw [Jt]
theorem Yq {bs:List Bx} {at_:Nat} {S:Bx} {w:Nat} {c:Bx}:∀ {i},c ∈ grTo bs at_ S w i -> ∃ k b,bs[k]? = some b /\ c = newB at_ S w k b /\ full c
 | 0,h => nomatch h
 | i + 1,h => by
   have h:c ∈ grTo bs at_ S w i ++ (match bs[i]? with | some b => one at_ S w i b | none => []) := h
   rcases List.mem_append.mp h with h | h
   · exact Yq h
   · cases e:bs[i]? with
     | none => rw [e] at h; exact nomatch h
     | some b =>
       rw [e] at h
       simp only [one] at h
       split at h
       · rename_i hf
         obtain rfl := List.mem_singleton.mp h
         exact ⟨i,b,e,rfl,hf⟩
       · exact nomatch h
theorem Ju {n:Int} {S b:Bx} (o:Ok n n b):∀ {w:Nat},w < 4 -> (trim S b w).l < (trim S b w).r -> (trim S b w).t < (trim S b w).b -> 0 <= S.r -> 0 <= S.b -> S.l <= n -> S.t <= n -> Ok n n (trim S b w)
 | 0,_,f1,f2,k1,_,_,_ => ⟨k1,f1,o.h2,o.v0,f2,o.v2⟩
 | 1,_,f1,f2,_,_,k3,_ => ⟨o.h0,f1,k3,o.v0,f2,o.v2⟩
 | 2,_,f1,f2,_,k2,_,_ => ⟨o.h0,f1,o.h2,k2,f2,o.v2⟩
 | _ + 3,_,f1,f2,_,_,_,k4 => ⟨o.h0,f1,o.h2,o.v0,f2,k4⟩
theorem QN {S b:Bx} {x y:Int}:∀ {w:Nat},inB (trim S b w) x y = true -> inB S x y = true -> False
 | 0,z,s => Int.not_lt.mpr (zT.mp z).1 (zT.mp s).2.1
 | 1,z,s => Int.not_lt.mpr (zT.mp s).1 (zT.mp z).2.1
 | 2,z,s => Int.not_lt.mpr (zT.mp z).2.2.1 (zT.mp s).2.2.2
 | _ + 3,z,s => Int.not_lt.mpr (zT.mp s).2.2.1 (zT.mp z).2.2.2
noncomputable def In4 (c:Bx) (x y:Int):Prop := c.l <= x /\ x < c.r /\ c.t <= y /\ y < c.b
theorem QO {B:Bx} {x y:Int} (h1:B.l < B.r) (h2:B.t < B.b):∀ {w:Nat},w < 4 -> ¬ In4 (strip B w) x y -> (In4 (join (strip B w) B) x y ↔ In4 B x y)
 | 0,_,no => by
   show (min B.l B.r <= x /\ x < max B.r (B.r + 1) /\ min B.t B.t <= y /\ y < max B.b B.b) ↔ _
   rw [Int.min_eq_left (Int.le_of_lt h1),Int.max_eq_right (Int.le_of_lt (Int.lt_succ _)),Int.min_self,Int.max_self]
   exact ⟨fun ⟨a,b,c,d⟩ => ⟨a,Int.not_le.mp fun z => no ⟨z,b,c,d⟩,c,d⟩,fun ⟨a,b,c,d⟩ => ⟨a,Int.lt_trans b (Int.lt_succ _),c,d⟩⟩
 | 1,_,no => by
   have k:B.l - 1 <= B.l := Int.sub_le_self _ (by decide)
   show (min B.l (B.l - 1) <= x /\ x < max B.r B.l /\ min B.t B.t <= y /\ y < max B.b B.b) ↔ _
   rw [Int.min_eq_right k,Int.max_eq_left (Int.le_of_lt h1),Int.min_self,Int.max_self]
   exact ⟨fun ⟨a,b,c,d⟩ => ⟨Int.not_lt.mp fun z => no ⟨a,z,c,d⟩,b,c,d⟩,fun ⟨a,b,c,d⟩ => ⟨Int.le_trans k a,b,c,d⟩⟩
 | 2,_,no => by
   show (min B.l B.l <= x /\ x < max B.r B.r /\ min B.t B.b <= y /\ y < max B.b (B.b + 1)) ↔ _
   rw [Int.min_self,Int.max_self,Int.min_eq_left (Int.le_of_lt h2),Int.max_eq_right (Int.le_of_lt (Int.lt_succ _))]
   exact ⟨fun ⟨a,b,c,d⟩ => ⟨a,b,c,Int.not_le.mp fun z => no ⟨a,b,z,d⟩⟩,fun ⟨a,b,c,d⟩ => ⟨a,b,c,Int.lt_trans d (Int.lt_succ _)⟩⟩
 | 3,_,no => by
   have k:B.t - 1 <= B.t := Int.sub_le_self _ (by decide)
   show (min B.l B.l <= x /\ x < max B.r B.r /\ min B.t (B.t - 1) <= y /\ y < max B.b B.t) ↔ _
   rw [Int.min_self,Int.max_self,Int.min_eq_right k,Int.max_eq_left (Int.le_of_lt h2)]
   exact ⟨fun ⟨a,b,c,d⟩ => ⟨a,b,Int.not_lt.mp fun z => no ⟨a,b,c,z⟩,d⟩,fun ⟨a,b,c,d⟩ => ⟨a,b,Int.le_trans k c,d⟩⟩
theorem QP {B b:Bx} {x y:Int} (h1:B.l < B.r) (h2:B.t < B.b) (o1:b.l < b.r) (o2:b.t < b.b) (ap:b.r <= B.l \/ B.r <= b.l \/ b.b <= B.t \/ B.b <= b.t):∀ {w:Nat},w < 4 -> hit (strip B w) b -> ¬ bad B b w -> ¬ In4 (strip B w) x y -> (In4 (trim (strip B w) b w) x y ↔ In4 b x y)
 | 0,_,⟨r1,r2,r3,r4⟩,nb,no => by
   have n1:B.t <= b.t := Int.not_lt.mp fun z => nb (.inl ⟨by decide,.inl z⟩)
   have n2:b.b <= B.b := Int.not_lt.mp fun z => nb (.inl ⟨by decide,.inr z⟩)
   have r1:b.l < B.r + 1 := r1
   have r2:B.r < b.r := r2
   have e:B.r <= b.l := by clear no nb r3 r4; omega
   show (B.r + 1 <= x /\ x < b.r /\ b.t <= y /\ y < b.b) ↔ _
   exact ⟨fun ⟨a,c,d,f⟩ => ⟨Int.le_trans (Int.le_of_lt r1) a,c,d,f⟩,fun ⟨a,c,d,f⟩ => ⟨Int.not_lt.mp fun z => no ⟨Int.le_trans e a,z,Int.le_trans n1 d,Int.lt_of_lt_of_le f n2⟩,c,d,f⟩⟩
 | 1,_,⟨r1,r2,r3,r4⟩,nb,no => by
   have n1:B.t <= b.t := Int.not_lt.mp fun z => nb (.inl ⟨by decide,.inl z⟩)
   have n2:b.b <= B.b := Int.not_lt.mp fun z => nb (.inl ⟨by decide,.inr z⟩)
   have r1:b.l < B.l := r1
   have r2:B.l - 1 < b.r := r2
   have e:b.r <= B.l := by clear no nb r3 r4; omega
   show (b.l <= x /\ x < B.l - 1 /\ b.t <= y /\ y < b.b) ↔ _
   exact ⟨fun ⟨a,c,d,f⟩ => ⟨a,Int.lt_trans c r2,d,f⟩,fun ⟨a,c,d,f⟩ => ⟨a,Int.not_le.mp fun z => no ⟨z,Int.lt_of_lt_of_le c e,Int.le_trans n1 d,Int.lt_of_lt_of_le f n2⟩,d,f⟩⟩
 | 2,_,⟨r1,r2,r3,r4⟩,nb,no => by
   have n1:B.l <= b.l := Int.not_lt.mp fun z => nb (.inr ⟨by decide,.inl z⟩)
   have n2:b.r <= B.r := Int.not_lt.mp fun z => nb (.inr ⟨by decide,.inr z⟩)
   have r3:b.t < B.b + 1 := r3
   have r4:B.b < b.b := r4
   have e:B.b <= b.t := by clear no nb r1 r2; omega
   show (b.l <= x /\ x < b.r /\ B.b + 1 <= y /\ y < b.b) ↔ _
   exact ⟨fun ⟨a,c,d,f⟩ => ⟨a,c,Int.le_trans (Int.le_of_lt r3) d,f⟩,fun ⟨a,c,d,f⟩ => ⟨a,c,Int.not_lt.mp fun z => no ⟨Int.le_trans n1 a,Int.lt_of_lt_of_le c n2,Int.le_trans e d,z⟩,f⟩⟩
 | 3,_,⟨r1,r2,r3,r4⟩,nb,no => by
   have n1:B.l <= b.l := Int.not_lt.mp fun z => nb (.inr ⟨by decide,.inl z⟩)
   have n2:b.r <= B.r := Int.not_lt.mp fun z => nb (.inr ⟨by decide,.inr z⟩)
   have r3:b.t < B.t := r3
   have r4:B.t - 1 < b.b := r4
   have e:b.b <= B.t := by clear no nb r1 r2; omega
   show (b.l <= x /\ x < b.r /\ b.t <= y /\ y < B.t - 1) ↔ _
   exact ⟨fun ⟨a,c,d,f⟩ => ⟨a,c,d,Int.lt_trans f r4⟩,fun ⟨a,c,d,f⟩ => ⟨a,c,d,Int.not_le.mp fun z => no ⟨Int.le_trans n1 a,Int.lt_of_lt_of_le c n2,z,Int.lt_of_lt_of_le f e⟩⟩⟩
theorem Xe {bs:List Bx} {n:Int} {at_ w:Nat} {B:Bx} (T:z0 bs n n) (hat:bs[at_]? = some B) (hw:w < 4)
   (h0:0 <= (strip B w).l /\ 0 <= (strip B w).t) (h1:(strip B w).r <= n /\ (strip B w).b <= n)
   (hb:∀ k b,bs[k]? = some b -> k ≠ at_ -> hit (strip B w) b -> ¬ bad B b w):z0 (grTo bs at_ (strip B w) w bs.length) n n := by
 have la:at_ < bs.length := (List.getElem?_eq_some_iff.mp hat).1
 obtain ⟨B1,B2,B3,B4,B5,B6⟩ := T.wf B (List.mem_of_getElem? hat)
 refine ⟨fun c hc => ?_,fun x y x1 x2 y1 y2 => ?_⟩
 · obtain ⟨k,b,hk,rfl,f1,f2⟩ := Yq hc
   obtain ⟨b1,b2,b3,b4,b5,b6⟩ := T.wf b (List.mem_of_getElem? hk)
   revert f1 f2
   unfold newB
   by_cases e:k = at_
   · subst e
     rw [hat] at hk
     cases hk
     rw [if_pos rfl]
     intro f1 f2
     obtain ⟨g1,g2⟩ := h0
     obtain ⟨g3,g4⟩ := h1
     exact ⟨Int.le_min.mpr ⟨B1,g1⟩,f1,Int.max_le.mpr ⟨B3,g3⟩,Int.le_min.mpr ⟨B4,g2⟩,f2,Int.max_le.mpr ⟨B6,g4⟩⟩
   · rw [if_neg e]
     by_cases q:hit (strip B w) b
     · rw [if_pos q]
       intro f1 f2
       obtain ⟨g1,g2⟩ := h0
       obtain ⟨g3,g4⟩ := h1
       obtain ⟨q1,q2,q3,q4⟩ := q
       exact Ju ⟨b1,b2,b3,b4,b5,b6⟩ hw f1 f2 (Int.le_trans b1 (Int.le_of_lt q1)) (Int.le_trans b4 (Int.le_of_lt q3)) (Int.le_trans (Int.le_of_lt q2) b3) (Int.le_trans (Int.le_of_lt q4) b6)
     · rw [if_neg q]
       intro _ _
       exact ⟨b1,b2,b3,b4,b5,b6⟩
 · rw [Yp]
   have q := T.one x y x1 x2 y1 y2
   rw [Zf] at q
   by_cases hs:inB (strip B w) x y = true
   · -- in the strip: the box at at_ alone
     rw [qh (q := fun k => decide (k = at_)) bs.length,Xx,if_pos la]
     intro k hk
     have ek:bs[k]? = some bs[k] := List.getElem?_eq_getElem hk
     generalize bs[k] = b at ek
     unfold atN
     rw [ek]
     simp only [newB]
     obtain ⟨s1,s2,s3,s4⟩ := zT.mp hs
     by_cases e:k = at_
     · subst e
       rw [hat] at ek
       cases ek
       rw [if_pos rfl,decide_eq_true rfl]
       exact zT.mpr ⟨Int.le_trans (Int.min_le_right _ _) s1,Int.lt_of_lt_of_le s2 (Int.le_max_right _ _),Int.le_trans (Int.min_le_right _ _) s3,Int.lt_of_lt_of_le s4 (Int.le_max_right _ _)⟩
     · rw [if_neg e,decide_eq_false e]
       rw [Bool.eq_false_iff]
       intro z
       by_cases r:hit (strip B w) b
       · rw [if_pos r] at z
         exact QN z hs
       · rw [if_neg r] at z
         have z := zT.mp z
         exact r ⟨by omega,by omega,by omega,by omega⟩
   · rw [qh (q := atB bs x y) bs.length]
     · exact q
     intro k hk
     have ek:bs[k]? = some bs[k] := List.getElem?_eq_getElem hk
     generalize bs[k] = b at ek
     unfold atN
     rw [wE ek,ek]
     simp only [newB]
     have hs':¬ ((strip B w).l <= x /\ x < (strip B w).r /\ (strip B w).t <= y /\ y < (strip B w).b) := fun z => hs (zT.mpr z)
     have two:∀ (c d:Bx),((c.l <= x /\ x < c.r /\ c.t <= y /\ y < c.b) ↔ (d.l <= x /\ x < d.r /\ d.t <= y /\ y < d.b)) -> inB c x y = inB d x y := fun c d h => by
       rw [Bool.eq_iff_iff,zT,zT]
       exact h
     by_cases e:k = at_
     · subst e
       rw [hat] at ek
       cases ek
       rw [if_pos rfl]
       exact two _ _ (QO B2 B5 hw hs')
     · rw [if_neg e]
       by_cases r:hit (strip B w) b
       · rw [if_pos r]
         have o := T.wf b (List.mem_of_getElem? ek)
         exact two _ _ (QP B2 B5 o.h1 o.v1 (T.apart ek hat e) hw r (hb k b ek e r) hs')
       · rw [if_neg r]
noncomputable def xw (xs:List Int):Prop := ∀ i j:Nat,i < j -> j < xs.length -> xs.getD i 0 < xs.getD j 0
theorem xj {xs:List Int} (R:xw xs) {i j:Nat} (h:i <= j) (hj:j < xs.length):xs.getD i 0 <= xs.getD j 0 := by
 rcases Nat.lt_or_eq_of_le h with h | rfl
 · exact Int.le_of_lt (R i j h hj)
 · exact Int.le_refl _
theorem Xf {xs:List Int} {z:Int} (R:xw xs) (hl:0 < xs.length) (hz:xs.getD (xs.length - 1) 0 < z):xw (xs ++ [z]) := by
 intro i j hij hj
 rw [List.length_append,List.length_singleton] at hj
 have e1:∀ k,k < xs.length -> (xs ++ [z]).getD k 0 = xs.getD k 0 := fun k hk => by
   rw [List.getD_eq_getElem?_getD,List.getD_eq_getElem?_getD,List.getElem?_append_left hk]
 have e2:(xs ++ [z]).getD xs.length 0 = z := by simp [List.getD]
 by_cases h:j < xs.length
 · rw [e1 i (by omega),e1 j h]
   exact R i j hij h
 · have ej:j = xs.length := by omega
   subst ej
   rw [e1 i (by omega),e2]
   exact Int.lt_of_le_of_lt (xj R (by omega) (by omega)) hz
theorem between {xs:List Int} (x:Int):∀ n:Nat,n < xs.length -> xs.getD 0 0 <= x -> x < xs.getD n 0 -> ∃ i,i < n /\ xs.getD i 0 <= x /\ x < xs.getD (i + 1) 0
 | 0,_,h1,h2 => by omega
 | n + 1,hl,h1,h2 => by
   by_cases h:x < xs.getD n 0
   · obtain ⟨i,a,b⟩ := between x n (by omega) h1 h
     exact ⟨i,by omega,b⟩
   · exact ⟨n,Nat.lt_succ_self n,by omega,h2⟩
noncomputable def lay (xs ys:List Int) (b:Bx):Bx := ⟨xs.getD b.l.toNat 0,ys.getD b.t.toNat 0,xs.getD b.r.toNat 0,ys.getD b.b.toNat 0⟩
theorem qi {xs:List Int} (R:xw xs) {x:Int} {i k:Nat} (hk:k < xs.length) (hi:i + 1 < xs.length) (h1:xs.getD i 0 <= x) (h2:x < xs.getD (i + 1) 0):(xs.getD k 0 <= x ↔ k <= i) := by
 constructor
 · intro h
   refine Nat.le_of_not_lt fun q => ?_
   have := xj R (i := i + 1) (j := k) q hk
   omega
 · intro h
   have := xj R h (by omega:i < xs.length)
   omega
theorem wK {v:Int} {n L:Nat} (h:v <= n) (hL:L = n + 1):v.toNat < L := by
 rw [hL]
 exact Nat.lt_succ_of_le (Int.toNat_le.mpr h)
theorem Jl {u v:Int} (h0:0 <= u) (h:u < v):u.toNat < v.toNat := by omega
theorem jR {bs:List Bx} {xs ys:List Int} {n:Nat} (T:z0 bs n n) (Rx:xw xs) (Ry:xw ys) (lx:xs.length = n + 1) (ly:ys.length = n + 1) (x0:xs.getD 0 0 = 0) (y0:ys.getD 0 0 = 0) :
   z0 (bs.map (lay xs ys)) (xs.getD n 0) (ys.getD n 0) := by
 refine ⟨fun c hc => ?_,fun x y x1 x2 y1 y2 => ?_⟩
 · obtain ⟨b,hb,rfl⟩ := List.mem_map.mp hc
   obtain ⟨b1,b2,b3,b4,b5,b6⟩ := T.wf b hb
   have hl:b.l <= n := Int.le_trans (Int.le_of_lt b2) b3
   have ht:b.t <= n := Int.le_trans (Int.le_of_lt b5) b6
   have hn:n < xs.length := by rw [lx]; exact Nat.lt_succ_self n
   have hm:n < ys.length := by rw [ly]; exact Nat.lt_succ_self n
   refine ⟨?_,Rx _ _ (Jl b1 b2) (wK b3 lx),xj Rx (Int.toNat_le.mpr b3) hn,?_,Ry _ _ (Jl b4 b5) (wK b6 ly),xj Ry (Int.toNat_le.mpr b6) hm⟩
   · have q := xj Rx (i := 0) (j := b.l.toNat) (Nat.zero_le _) (wK hl lx)
     rw [x0] at q
     exact q
   · have q := xj Ry (i := 0) (j := b.t.toNat) (Nat.zero_le _) (wK ht ly)
     rw [y0] at q
     exact q
 · obtain ⟨i,i1,i2,i3⟩ := between x n (by omega) (by omega) x2
   obtain ⟨j,j1,j2,j3⟩ := between y n (by omega) (by omega) y2
   have q := T.one i j (by omega) (by omega) (by omega) (by omega)
   rw [<- q]
   unfold cnt
   rw [List.countP_map]
   refine List.countP_congr fun b hb => ?_
   obtain ⟨b1,b2,b3,b4,b5,b6⟩ := T.wf b hb
   show inB (lay xs ys b) x y = true ↔ inB b i j = true
   rw [zT,zT]
   have hi:i + 1 < xs.length := by rw [lx]; exact Nat.succ_lt_succ i1
   have hj:j + 1 < ys.length := by rw [ly]; exact Nat.succ_lt_succ j1
   have s1 := qi Rx (k := b.l.toNat) (wK (Int.le_trans (Int.le_of_lt b2) b3) lx) hi i2 i3
   have s2 := qi Rx (k := b.r.toNat) (wK b3 lx) hi i2 i3
   have s3 := qi Ry (k := b.t.toNat) (wK (Int.le_trans (Int.le_of_lt b5) b6) ly) hj j2 j3
   have s4 := qi Ry (k := b.b.toNat) (wK b6 ly) hj j2 j3
   refine and_congr (s1.trans Int.toNat_le) (and_congr ?_ (and_congr (s3.trans Int.toNat_le) ?_))
   · exact Int.not_le.symm.trans ((not_congr (s2.trans Int.toNat_le)).trans Int.not_le)
   · exact Int.not_le.symm.trans ((not_congr (s4.trans Int.toNat_le)).trans Int.not_le)
theorem wl {bs cs:List Bx} {n m:Int} (T:z0 bs n m) (p:cs.Perm bs):z0 cs n m :=
 ⟨fun b hb => T.wf b (p.mem_iff.mp hb),fun x y h1 h2 h3 h4 => by rw [<- T.one x y h1 h2 h3 h4]; exact p.countP_eq _⟩
theorem XS {bs:List Bx} {n m:Int} (T:z0 bs n m) {x y:Int} (h1:0 <= x) (h2:x < n) (h3:0 <= y) (h4:y < m) :
   ∃ (k:Nat) (b:Bx),bs[k]? = some b /\ inB b x y = true /\ ∀ (j:Nat) (c:Bx),bs[j]? = some c -> inB c x y = true -> j = k := by
 have q := T.one x y h1 h2 h3 h4
 have p:0 < bs.countP (inB · x y) := by unfold cnt at q; omega
 obtain ⟨b,hb,hin⟩ := List.countP_pos_iff.mp p
 obtain ⟨k,hk⟩ := List.mem_iff_getElem?.mp hb
 refine ⟨k,b,hk,hin,fun j c hj hc => ?_⟩
 refine Classical.byContradiction fun ne => ?_
 rw [Zf] at q
 have z := jB (p := atB bs x y) (j := j) (k := k) (by rw [wE hj]; exact hc) (by rw [wE hk]; exact hin) ne bs.length
 rw [if_pos (List.getElem?_eq_some_iff.mp hj).1,if_pos (List.getElem?_eq_some_iff.mp hk).1] at z
 omega
end _Til
namespace _K4
open PySem _L2 _Til
noncomputable def top (i:Nat):Stmt := PySem.Challenge.pw_pagepart_k04_pictures_refused.main.body.getD i (.Pass ⟨0,0,0,0⟩)
noncomputable abbrev q0:Stmt := top 33
noncomputable abbrev q8:Stmt := top 34
noncomputable abbrev wV:Stmt := top 35
noncomputable abbrev wW:Stmt := top 36
noncomputable abbrev ja:Stmt := top 37
noncomputable abbrev wX:Stmt := top 38
noncomputable abbrev jb:Stmt := top 39
noncomputable abbrev sRef:Stmt := top 40
noncomputable abbrev sLaw:Stmt := top 46
noncomputable abbrev wY:Stmt := top 17
noncomputable abbrev wq:Stmt := top 18
noncomputable abbrev sBox:Stmt := top 19
noncomputable abbrev sAre:Stmt := top 20
noncomputable abbrev wt:Stmt := top 21
noncomputable abbrev xO:Stmt := top 22
noncomputable abbrev sAny:Stmt := top 23
noncomputable abbrev jc:Stmt := top 24
noncomputable abbrev jd:Stmt := top 25
noncomputable abbrev sTtl:Stmt := top 26
noncomputable abbrev je:Stmt := top 27
noncomputable abbrev jf:Stmt := top 29
noncomputable abbrev wZ:Stmt := top 30
noncomputable abbrev jg:Stmt := top 31
noncomputable abbrev sDue:Stmt := top 41
noncomputable abbrev jh:Stmt := top 42
noncomputable abbrev w4:Stmt := top 43
noncomputable abbrev w5:Stmt := top 44
noncomputable abbrev ji:Stmt := top 45
theorem fresh {H:Hp} {p:Addr} {o:HO} {R:Hp -> Prop} (hn:H p = none) (k:∀ H1,Same H H1 -> H1 p = some o -> R H1):R (upd H p o) :=
 k _ (fun b u e => by rw [zq (zy e hn)]; exact e) zd
noncomputable def bxV (b:Bx):List V := [.int b.l,.int b.t,.int b.r,.int b.b]
noncomputable def yR (H:Hp) (v:V) (b:Bx):Prop := ∃ p,v = .ref p /\ H p = some (.tup (bxV b))
noncomputable def zm (H:Hp):List V -> List Bx -> Prop := Paired (yR H)
theorem yR.same {H H':Hp} (S:Same H H') {v:V} {b:Bx} (h:yR H v b):yR H' v b := let ⟨p,e,z⟩ := h; ⟨p,e,S _ _ z⟩
theorem zm.same {H H':Hp} (S:Same H H'):∀ {vs:List V} {bs:List Bx},zm H vs bs -> zm H' vs bs
 | _,_,.nil => .nil
 | _,_,.cons h t => .cons (h.same S) (zm.same S t)
theorem zm.len {H:Hp} {vs:List V} {bs:List Bx} (h:zm H vs bs):vs.length = bs.length := Paired.length h
theorem zm.get {H:Hp}:∀ {vs:List V} {bs:List Bx} {i:Nat} {b:Bx},zm H vs bs -> bs[i]? = some b -> ∃ v,vs[i]? = some v /\ yR H v b
 | _,_,_,_,.nil,e => by simp at e
 | _,_,0,_,.cons r _,e => by simp at e; subst e; exact ⟨_,rfl,r⟩
 | _,_,i + 1,b,.cons _ t,e => by
   obtain ⟨v,h1,h2⟩ := zm.get (i := i) (b := b) t (by simpa using e)
   exact ⟨v,by simpa using h1,h2⟩
theorem zm.append {H:Hp}:∀ {vs us:List V} {bs cs:List Bx},zm H vs bs -> zm H us cs -> zm H (vs ++ us) (bs ++ cs)
 | _,_,_,_,.nil,s => s
 | _,_,_,_,.cons r t,s => .cons r (zm.append t s)
theorem zm.take {H:Hp}:∀ {vs:List V} {bs:List Bx} (n:Nat),zm H vs bs -> zm H (vs.take n) (bs.take n)
 | _,_,0,_ => .nil
 | _,_,_ + 1,.nil => .nil
 | _,_,n + 1,.cons r t => .cons r (zm.take n t)
theorem zm.drop {H:Hp}:∀ {vs:List V} {bs:List Bx} (n:Nat),zm H vs bs -> zm H (vs.drop n) (bs.drop n)
 | _,_,0,r => r
 | _,_,_ + 1,.nil => .nil
 | _,_,n + 1,.cons _ t => zm.drop n t
noncomputable def Yr:Sp := fun vs H Q _ => ∃ c k:Int,vs = [.int c,.int k] /\ -1000 <= k /\ k <= 1000 /\ ∀ n:Int,Q (.int n) H
noncomputable def jS (K:PySem.W.Frag):Sp := fun vs H Q _ => ∃ (a:Addr) (ns:List Int) (k:Int),vs = [.ref a,.int k] /\ SqL K H a (ns.map V.int) /\ 0 <= k /\ k <= 1000 /\ ∀ n:Int,Q (.int n) H
section
variable {P:Program} {w:World} {K:PySem.W.Frag} {mg:Str -> Option Value} {base:Heap}
theorem Ys:zC ["cell","k","number"] ["cell","k"] (zl q0) := ⟨rfl,rfl,rfl,by decide +kernel,rfl,by decide +kernel,by decide +kernel⟩
theorem Jv {f:Addr} {fd:FuncData} (F:Fun K "_law_stir" "_law_stir" q0 f fd):FnOk P w K mg base CX0 1 f fd ["cell","k"] Yr := by
 refine F.ok Ys (fun vs H Q E h => ?_) (fun cdv A outer s H vs Q E hr h => ?_)
 · obtain ⟨c,k,rfl,_⟩ := h
   rfl
 · obtain ⟨c,k,rfl,k1,k2,q⟩ := h
   refine ⟨_,zg (zt (i := 2) Ys.nd rfl (Or.inl rfl) (zk zM (zk xV (zk zQ (zk zQ (zk zM (pv 0) ze) (zk xV ze (pv 1))) ze) ze) ze))
     (zg (zt (i := 2) Ys.nd rfl (Or.inl rfl) (zk zM (zk xV (pv 2) (pv 2)) ze))
     (zh (zw (zk zM (zk xV (pv 2) ze) ze)))),?_⟩
   have m1 := Int.emod_nonneg c (show (2147483629:Int) ≠ 0 by decide)
   have m2 := Int.emod_lt_of_pos c (show (0:Int) < 2147483629 by decide)
   refine ⟨_,rfl,_,_,rfl,rfl,(by show (0:Int) < 2147483629; decide),_,rfl,_,_,rfl,rfl,.inl ⟨by decide,by decide⟩,_,_,rfl,rfl,_,_,rfl,rfl,_,_,rfl,rfl,.inl ⟨by omega,by omega⟩,_,_,rfl,rfl,(by show (0:Int) < 2147483647; decide),?_⟩
   generalize hA:(c % 2147483629 + 7919 * k + 1) * 48271 = a
   have a1 := Int.emod_nonneg a (show (2147483647:Int) ≠ 0 by decide)
   have a2 := Int.emod_lt_of_pos a (show (0:Int) < 2147483647 by decide)
   refine ⟨_,rfl,_,rfl,_,_,rfl,rfl,.inl ⟨by omega,by omega⟩,_,_,rfl,rfl,(by show (0:Int) < 2147483629; decide),?_⟩
   generalize a % 2147483647 * (a % 2147483647) = b
   have b1 := Int.emod_nonneg b (show (2147483629:Int) ≠ 0 by decide)
   have b2 := Int.emod_lt_of_pos b (show (0:Int) < 2147483629 by decide)
   exact ⟨_,rfl,_,_,rfl,rfl,.inl ⟨by omega,by omega⟩,_,_,rfl,rfl,(by show (0:Int) < 2147483563; decide),q _⟩
end
end _K4
namespace _K4
open PySem _L2 _Til
structure Callee (P:Program) (w:World) (K:PySem.W.Frag) (mg:Str -> Option Value) (base:Heap) (CX:CXT) (k:Nat) (x:Str) (f:Addr) (fd:FuncData) (ps:List Str) (sp:Sp):Prop where
 ok:FnOk P w K mg base CX k f fd ps sp
 bound:mg x = some (.ref f)
 kp:PySem.W.keepIn K (.ref f) = true
 bd:Binds K fd ps []
theorem w6 {ns:List Int} {k:Int} (h0:0 <= k) (h1:k < ns.length):atI (ns.map V.int) k = some (.int (ns.getD k.toNat 0)) := by
 obtain ⟨j,rfl⟩ := Int.eq_ofNat_of_zero_le h0
 refine zH ?_
 rw [List.getElem?_map,List.getElem?_eq_getElem (by omega)]
 simp [List.getD,show j < ns.length by omega]
theorem jD {ns:List Int} (h:0 < ns.length):atI (ns.map V.int) (-1) = some (.int (ns.getD (ns.length - 1) 0)) := by
 have e:ns = ns.dropLast ++ [ns.getD (ns.length - 1) 0] := by
   have hn:ns ≠ [] := by intro z; rw [z] at h; simp at h
   have e1 := (List.dropLast_concat_getLast hn).symm
   have e2:ns.getLast hn = ns.getD (ns.length - 1) 0 := by
     rw [List.getLast_eq_getElem,_L2.getD_at (by omega)]
   rw [<- e2]
   exact e1
 have e3:ns.map V.int = ns.dropLast.map V.int ++ [V.int (ns.getD (ns.length - 1) 0)] := by
   conv => lhs; rw [e]
   rw [List.map_append]
   rfl
 rw [e3]
 exact jA _ _
section
variable {P:Program} {w:World} {K:PySem.W.Frag} {mg:Str -> Option Value} {base:Heap}
theorem zau:zC ["script","k"] ["script","k"] (zl q8) := ⟨rfl,rfl,rfl,by decide +kernel,rfl,by decide +kernel,by decide +kernel⟩
theorem Jw {f fS:Addr} {fd fdS:FuncData} (F:Fun K "_law_cell" "_law_cell" q8 f fd) (tl:mg "len" = none) (S:Callee P w K mg base CX0 1 "_law_stir" fS fdS ["cell","k"] Yr):FnOk P w K mg base CX0 2 f fd ["script","k"] (jS K) := by
 refine F.ok zau (fun vs H Q E h => ?_) (fun cdv A outer s H vs Q E hr h => ?_)
 · obtain ⟨a,ns,k,rfl,_⟩ := h
   rfl
 · obtain ⟨a,ns,k,rfl,hS,k1,k2,q⟩ := h
   refine ⟨_,zg (zU (zu yt (pv 1) (zo zI (by rfl) tl PySem.boot_len (za (pv 0) zb)) (zr _)) (zh (zw (zn zv (pv 0) (pv 1) (fun _ _ => rfl)))) zO)
     (zg (zU (zu yY (zo zI (by rfl) tl PySem.boot_len (za (pv 0) zb)) ze (zr _))
       (zh (zw (zF S.ok hr rfl S.bound S.kp S.bd .nil zV (za (zk xV (pv 1) (pv 1)) (za (pv 1) zb))))) zO)
     (zh (zw (zF S.ok hr rfl S.bound S.kp S.bd .nil zV (za (zn zv (pv 0) (zk zM (pv 1) (zo zI (by rfl) tl PySem.boot_len (za (pv 0) zb))) (fun _ _ => rfl)) (za (pv 1) zb)))))),?_⟩
   refine ⟨_,rfl,_,rfl,_,_,rfl,.inl hS,_,_,rfl,rfl,_,rfl,?_⟩
   rw [List.length_map]
   refine ite2 (fun c1 => ?_) (fun c1 => ?_)
   · have c1 := of_decide_eq_true c1
     exact ⟨_,rfl,_,rfl,_,_,_,_,rfl,rfl,hS,w6 k1 c1,q _⟩
   · have c1:¬ k < (ns.length:Int) := fun z => c1 (decide_eq_true z)
     refine ⟨_,rfl,_,_,rfl,.inl hS,rfl,_,rfl,?_⟩
     rw [List.length_map]
     refine ite2 (fun c2 => ?_) (fun c2 => ?_)
     · exact ⟨_,rfl,_,rfl,_,_,rfl,rfl,.inl ⟨by omega,by omega⟩,_,rfl,_,_,rfl,by omega,by omega,fun n => q n⟩
     · have c2:ns.length ≠ 0 := fun z => c2 (decide_eq_true (by rw [z]; rfl))
       have hp:(0:Int) < (ns.length:Int) := by omega
       have m1 := Int.emod_nonneg k (show (ns.length:Int) ≠ 0 by omega)
       have m2 := Int.emod_lt_of_pos k hp
       exact ⟨_,rfl,_,rfl,_,rfl,_,_,rfl,.inl hS,_,_,rfl,rfl,(by rw [List.length_map]; exact hp),_,_,_,_,rfl,rfl,hS,(by rw [List.length_map]; exact w6 m1 m2),_,rfl,_,_,rfl,by omega,by omega,fun n => q n⟩
noncomputable def Zg (K:PySem.W.Frag):Sp := fun vs H Q _ => ∃ (a:Addr) (ns:List Int) (first most:Int) (N:Nat),vs = [.ref a,.int first,.int N,.int most] /\ SqL K H a (ns.map V.int) /\ 0 <= first /\ first <= 900 /\ N <= 50 /\ 0 < most /\
 ∀ (l:Addr) (xs:List Int) (H':Hp),Same H H' -> H l = none -> H' l = some (.lst (xs.map V.int)) -> xw xs -> xs.length = N + 1 -> xs.getD 0 0 = 0 -> xs.getD N 0 <= N * most -> Q (.ref l) H'
theorem yH {H H1:Hp} {l:Addr} {o:HO} (S:Same H H1) (hn:H l = none):Same H (upd H1 l o) := fun b u e => by
 rw [zq (zy e hn)]
 exact S b u e
theorem Zh:zC ["script","first","many","most","found","k"] ["script","first","many","most"] (zl wX) := ⟨rfl,rfl,rfl,by decide +kernel,rfl,by decide +kernel,by decide +kernel⟩
theorem QQ {f fC:Addr} {fd fdC:FuncData} (F:Fun K "_law_lines" "_law_lines" wX f fd) (tr:mg "range" = none) (C:Callee P w K mg base CX0 2 "_law_cell" fC fdC ["script","k"] (jS K)) :
   FnOk P w K mg base CX0 3 f fd ["script","first","many","most"] (Zg K) := by
 refine F.ok Zh (fun vs H Q E h => ?_) (fun cdv A outer s H vs Q E hr h => ?_)
 · obtain ⟨a,ns,first,most,N,rfl,_⟩ := h
   rfl
 · obtain ⟨a,ns,first,most,N,rfl,hS,f1,f2,hN,hm,q⟩ := h
   refine ⟨_,zg (zt (i := 4) Zh.nd rfl (Or.inl rfl) (zX (za ze zb)))
     (zg (yF PassesOwn.never rfl (yX rfl tr (za (pv 2) zb)) (zp (i := 5) Zh.nd rfl (Or.inl rfl))
       (zh (xl (xc PySem.F.plainAttrs_list PySem.F.slot_list_append PySem.F.type_list_append xD (pv 4)
         (za (zk zQ (zk zQ (zn zv (pv 4) (qU wQ ze) (fun _ _ => rfl)) ze) (zk zM (zk yw (zF C.ok hr rfl C.bound C.kp C.bd .nil zV (za (pv 0) (za (zk zQ (pv 1) (pv 5)) zb))) ze) (pv 3))) zb)))))
     (zh (zw (pv 4)))),?_⟩
   refine ⟨by show 1 <= sizeLine; decide,fun l hl => ?_⟩
   refine fresh (R := fun H1 => _) hl fun H1 S1 h1 => ?_
   refine ⟨_,rfl,_,rfl,by omega,by omega,yP (lo := 0) (n := N) (fun i σ H2 => ∃ (xs:List Int) (kv:Option V),σ = [some (.ref a),some (.int first),some (.int N),some (.int most),some (.ref l),kv] /\ Same H H2 /\ H2 l = some (.lst (xs.map V.int)) /\ xw xs /\ xs.length = i + 1 /\ xs.getD 0 0 = 0 /\ xs.getD i 0 <= i * most)
     ⟨[0],none,rfl,S1,h1,fun i j hij hj => by simp at hj; omega,rfl,rfl,by show (0:Int) <= ((0:Nat):Int) * most; simp⟩ ?_ ?_⟩
   · rintro i σ H2 hi ⟨xs,kv,rfl,S2,hl2,R,hx,x0,xb⟩
     refine ⟨_,rfl,.inl ⟨rfl,_,SqL.of hl2⟩,_,rfl,_,rfl,_,_,_,_,rfl,rfl,SqL.of hl2,jD (by omega),_,_,rfl,rfl,_,rfl,_,rfl,_,rfl,_,_,rfl,rfl,a,ns,_,rfl,S2.seq hS,by omega,by omega,fun n => ?_⟩
     refine ⟨_,_,rfl,rfl,⟨by decide,by decide⟩,_,rfl,_,_,rfl,rfl,hm,_,_,rfl,rfl,l,_,_,rfl,rfl,hl2,?_,?_⟩
     · rw [List.length_map,hx]
       exact Nat.lt_of_le_of_lt (show i + 1 <= 1000 by omega) (by decide)
     · have m1 := Int.emod_nonneg (n / 7) (show most ≠ 0 by omega)
       refine ⟨xs ++ [xs.getD (xs.length - 1) 0 + 1 + n / 7 % most],_,rfl,yH S2 hl,?_,Xf R (by omega) (by omega),by rw [List.length_append,hx]; rfl,?_,?_⟩
       · rw [zd,List.map_append]
         rfl
       · rw [List.getD_eq_getElem?_getD,List.getElem?_append_left (by omega),<- List.getD_eq_getElem?_getD]
         exact x0
       · have m2 := Int.emod_lt_of_pos (n / 7) hm
         have e:(((i + 1:Nat):Int)) * most = i * most + most := by
           rw [Int.natCast_add,Int.add_mul]
           simp
         rw [e,List.getD_eq_getElem?_getD,List.getElem?_append_right (by omega),show i + 1 - xs.length = 0 by omega,show xs.length - 1 = i by omega]
         show xs.getD i 0 + 1 + n / 7 % most <= _
         omega
   · rintro σ H2 ⟨xs,kv,rfl,S2,hl2,R,hx,x0,xb⟩
     exact ⟨_,rfl,q l xs H2 S2 hl hl2 R hx x0 xb⟩
end
end _K4
namespace _K4
open PySem _L2 _Til
theorem sz5:5 <= sizeLine := by decide
theorem zf {H:Hp} {p:Addr} {o:HO} (hn:H p = none):Same H (upd H p o) := fun b u e => by
 rw [zq (zy e hn)]
 exact e
theorem five {H:Hp} {p1 p2 p3 p4 p5 z:Addr} {o1 o2 o3 o4 o5:HO} (n1:H p1 = none) (n2:(upd H p1 o1) p2 = none) (n3:(upd (upd H p1 o1) p2 o2) p3 = none) (n4:(upd (upd (upd H p1 o1) p2 o2) p3 o3) p4 = none)
   (n5:(upd (upd (upd (upd H p1 o1) p2 o2) p3 o3) p4 o4) p5 = none) (nz:(upd (upd (upd (upd (upd H p1 o1) p2 o2) p3 o3) p4 o4) p5 o5) z = none) (oz:HO) :
   Same H (upd (upd (upd (upd (upd (upd H p1 o1) p2 o2) p3 o3) p4 o4) p5 o5) z oz) /\ H z = none /\ (upd (upd (upd (upd (upd (upd H p1 o1) p2 o2) p3 o3) p4 o4) p5 o5) z oz) p1 = some o1 /\ (upd (upd (upd (upd (upd (upd H p1 o1) p2 o2) p3 o3) p4 o4) p5 o5) z oz) p2 = some o2 /\
   (upd (upd (upd (upd (upd (upd H p1 o1) p2 o2) p3 o3) p4 o4) p5 o5) z oz) p3 = some o3 /\ (upd (upd (upd (upd (upd (upd H p1 o1) p2 o2) p3 o3) p4 o4) p5 o5) z oz) p4 = some o4 /\ (upd (upd (upd (upd (upd (upd H p1 o1) p2 o2) p3 o3) p4 o4) p5 o5) z oz) p5 = some o5 := by
 have S1 := zf (o := o1) n1
 have S2 := zf (o := o2) n2
 have S3 := zf (o := o3) n3
 have S4 := zf (o := o4) n4
 have S5 := zf (o := o5) n5
 have T5 := zf (o := oz) nz
 have T4 := S5.trans T5
 have T3 := S4.trans T4
 have T2 := S3.trans T3
 have T1 := S2.trans T2
 exact ⟨S1.trans T1,((((S1.trans S2).trans S3).trans S4).trans S5).free nz,T1 _ _ zd,T2 _ _ zd,T3 _ _ zd,T4 _ _ zd,T5 _ _ zd⟩
noncomputable def Zi:Sp := fun vs H Q _ => ∃ (v:V) (b:Bx) (rest:Int),vs = [v,.int rest] /\ yR H v b /\ b.l + 2 < b.r /\ b.t + 2 < b.b /\
 ∀ (l:Addr) (us:List V) (nb:List Bx) (H':Hp),Same H H' -> H l = none -> H' l = some (.lst us) -> zm H' us nb -> nb.length = 5 -> (∀ x y,cnt nb x y = (inB b x y).toNat) -> (∀ n m,Ok n m b -> ∀ c ∈ nb,Ok n m c) -> Q (.ref l) H'
local macro_rules | `(tactic| walk_at "ev") => `(tactic| ((repeat' (first | exact zc rfl | exact zx | refine zY ?_ ?_ | refine wk ?_ ?_ ?_ | refine XR ?_)) <;> (first | exact ⟨by decide,by decide⟩ | (show (0:Int) < _; omega) | skip)))
section
variable {P:Program} {w:World} {K:PySem.W.Frag} {mg:Str -> Option Value} {base:Heap}
theorem xp:zC ["box","rest","left","top","right","below","x","y","u","v"] ["box","rest"] (zl wW) := ⟨rfl,rfl,rfl,by decide +kernel,rfl,by decide +kernel,by decide +kernel⟩
theorem QR {f:Addr} {fd:FuncData} (F:Fun K "_law_wheel" "_law_wheel" wW f fd):FnOk P w K mg base CX0 1 f fd ["box","rest"] Zi := by
 refine F.ok xp (fun vs H Q E h => ?_) (fun cdv A outer s H vs Q E hr h => ?_)
 · obtain ⟨v,b,rest,rfl,_⟩ := h
   rfl
 · obtain ⟨v,b,rest,rfl,⟨p,rfl,hp⟩,hw,hh,q⟩ := h
   refine ⟨_,(zg (xi (pv 0) (xI rfl (zE (zp (i := 2) xp.nd rfl (Or.inl rfl)) (zE (zp (i := 3) xp.nd rfl (Or.inl rfl)) (zE (zp (i := 4) xp.nd rfl (Or.inl rfl)) (zE (zp (i := 5) xp.nd rfl (Or.inl rfl)) xm))))))
     (zg (zt (i := 6) xp.nd rfl (Or.inl rfl) (zk zQ (zk zQ (pv 2) ze) (zk zM (zk yw (pv 1) ze) (zk z8 (zk z8 (pv 4) (pv 2)) ze))))
     (zg (zt (i := 7) xp.nd rfl (Or.inl rfl) (zk zQ (zk zQ (pv 3) ze) (zk zM (zk yw (pv 1) ze) (zk z8 (zk z8 (pv 5) (pv 3)) ze))))
     (zg (zt (i := 8) xp.nd rfl (Or.inl rfl) (zk zQ (zk zQ (pv 6) ze) (zk zM (zk yw (pv 1) ze) (zk z8 (zk z8 (pv 4) (pv 6)) ze))))
     (zg (zt (i := 9) xp.nd rfl (Or.inl rfl) (zk zQ (zk zQ (pv 7) ze) (zk zM (zk yw (pv 1) ze) (zk z8 (zk z8 (pv 5) (pv 7)) ze))))
     (zg (zU (zu yY (zk zM (pv 1) ze) ze (zr _))
     (zh (zw (zX (za (zS (za (pv 2) (za (pv 3) (za (pv 8) (za (pv 7) zb))))) (za (zS (za (pv 8) (za (pv 3) (za (pv 4) (za (pv 9) zb))))) (za (zS (za (pv 6) (za (pv 9) (za (pv 4) (za (pv 5) zb))))) (za (zS (za (pv 2) (za (pv 7) (za (pv 6) (za (pv 5) zb))))) (za (zS (za (pv 6) (za (pv 7) (za (pv 8) (za (pv 9) zb))))) zb))))))))
     zO)
     (zh (zw (zX (za (zS (za (pv 6) (za (pv 3) (za (pv 4) (za (pv 7) zb))))) (za (zS (za (pv 8) (za (pv 7) (za (pv 4) (za (pv 5) zb))))) (za (zS (za (pv 2) (za (pv 9) (za (pv 8) (za (pv 5) zb))))) (za (zS (za (pv 2) (za (pv 3) (za (pv 6) (za (pv 9) zb))))) (za (zS (za (pv 6) (za (pv 7) (za (pv 8) (za (pv 9) zb))))) zb)))))))))))))),?_⟩
   have x1 := Int.emod_nonneg (rest / 2) (show b.r - b.l - 2 ≠ 0 by omega)
   have x2 := Int.emod_lt_of_pos (rest / 2) (show (0:Int) < b.r - b.l - 2 by omega)
   obtain ⟨x,hx⟩ : ∃ x,x = b.l + 1 + rest / 2 % (b.r - b.l - 2) := ⟨_,rfl⟩
   have y1 := Int.emod_nonneg (rest / 24) (show b.b - b.t - 2 ≠ 0 by omega)
   have y2 := Int.emod_lt_of_pos (rest / 24) (show (0:Int) < b.b - b.t - 2 by omega)
   obtain ⟨y,hy⟩ : ∃ y,y = b.t + 1 + rest / 24 % (b.b - b.t - 2) := ⟨_,rfl⟩
   have u1 := Int.emod_nonneg (rest / 288) (show b.r - x - 1 ≠ 0 by omega)
   have u2 := Int.emod_lt_of_pos (rest / 288) (show (0:Int) < b.r - x - 1 by omega)
   obtain ⟨u,hu⟩ : ∃ u,u = x + 1 + rest / 288 % (b.r - x - 1) := ⟨_,rfl⟩
   have v1 := Int.emod_nonneg (rest / 3456) (show b.b - y - 1 ≠ 0 by omega)
   have v2 := Int.emod_lt_of_pos (rest / 3456) (show (0:Int) < b.b - y - 1 by omega)
   obtain ⟨v,hv⟩ : ∃ v,v = y + 1 + rest / 3456 % (b.b - y - 1) := ⟨_,rfl⟩
   refine wC (zc rfl) (SqT.of hp) ?_
   refine yx (v := .int x) (by rw [hx]; walk_at "ev") ?_
   refine yx (v := .int y) (by rw [hy]; walk_at "ev") ?_
   refine yx (v := .int u) (by rw [hu]; walk_at "ev") ?_
   refine yx (v := .int v) (by rw [hv]; walk_at "ev") ?_
   refine WG (p := rest % 2 = 0) (zZ (wT (by walk_at "ev") zx)) (fun _ => ?_) (fun _ => ?_)
   · refine Yn ?_
     refine zN (zc rfl) (zc rfl) (zc rfl) (zc rfl) fun p1 n1 => ?_
     refine zN (zc rfl) (zc rfl) (zc rfl) (zc rfl) fun p2 n2 => ?_
     refine zN (zc rfl) (zc rfl) (zc rfl) (zc rfl) fun p3 n3 => ?_
     refine zN (zc rfl) (zc rfl) (zc rfl) (zc rfl) fun p4 n4 => ?_
     refine zN (zc rfl) (zc rfl) (zc rfl) (zc rfl) fun p5 n5 => ?_
     refine ⟨sz5,fun z nz => ?_⟩
     obtain ⟨s0,s1,s2,s3,s4,s5,s6⟩ := five n1 n2 n3 n4 n5 nz (.lst [.ref p1,.ref p2,.ref p3,.ref p4,.ref p5])
     exact q z _ (qG b.l b.t b.r b.b x y u v) _ s0 s1 zd (.cons ⟨p1,rfl,s2⟩ (.cons ⟨p2,rfl,s3⟩ (.cons ⟨p3,rfl,s4⟩ (.cons ⟨p4,rfl,s5⟩ (.cons ⟨p5,rfl,s6⟩ .nil))))) rfl
       (fun a c => Xc (by omega) (by omega) (by omega) (by omega) (by omega) (by omega) a c) fun n m o => WL o (by omega) (by omega) (by omega) (by omega) (by omega) (by omega)
   · refine wD ?_
     dsimp only
     refine Yn ?_
     refine zN (zc rfl) (zc rfl) (zc rfl) (zc rfl) fun p1 n1 => ?_
     refine zN (zc rfl) (zc rfl) (zc rfl) (zc rfl) fun p2 n2 => ?_
     refine zN (zc rfl) (zc rfl) (zc rfl) (zc rfl) fun p3 n3 => ?_
     refine zN (zc rfl) (zc rfl) (zc rfl) (zc rfl) fun p4 n4 => ?_
     refine zN (zc rfl) (zc rfl) (zc rfl) (zc rfl) fun p5 n5 => ?_
     refine ⟨sz5,fun z nz => ?_⟩
     obtain ⟨s0,s1,s2,s3,s4,s5,s6⟩ := five n1 n2 n3 n4 n5 nz (.lst [.ref p1,.ref p2,.ref p3,.ref p4,.ref p5])
     exact q z _ (qH b.l b.t b.r b.b x y u v) _ s0 s1 zd (.cons ⟨p1,rfl,s2⟩ (.cons ⟨p2,rfl,s3⟩ (.cons ⟨p3,rfl,s4⟩ (.cons ⟨p4,rfl,s5⟩ (.cons ⟨p5,rfl,s6⟩ .nil))))) rfl
       (fun a c => Xd (by omega) (by omega) (by omega) (by omega) (by omega) (by omega) a c) fun n m o => WM o (by omega) (by omega) (by omega) (by omega) (by omega) (by omega)
end
end _K4
namespace _K4
open PySem _L2 _Til
section
variable {σ:St} {H:Hp} {D:Ends}
theorem Zj {t u:TS} (G:St -> Hp -> Prop) (a:∀ N:St -> Hp -> Prop,(∀ σ H,G σ H -> N σ H) -> t { D with nx := N } σ H) (b:∀ σ H,G σ H -> u D σ H):tSeq t u D σ H := a (u D) b
theorem xX {i:Nat} {v:V} {Q:St -> Hp -> Prop} (h:Q (σ.set i (some v)) H):zG i v σ H Q := h
theorem xG {t:TA} {i:Nat} {u:TS} (h:t σ H fun xs H1 => xs.length <= sizeLine /\ ∀ p,H1 p = none -> u D (σ.set i (some (.ref p))) (upd H1 p (.lst xs))):tSeq (tAsg (tLst t) (zG i)) u D σ H := h
theorem ZL {K:PySem.W.Frag} {t1 t2 t3 t4 tw:TE} {v1 v2 v3 v4 v:V} {i:Nat} {w:Int} (h1:Evl t1 σ H v1) (h2:Evl t2 σ H v2) (h3:Evl t3 σ H v3) (h4:Evl t4 σ H v4) (hw:∀ H,Evl tw σ H (.int w)) (e:atI [v1,v2,v3,v4] w = some v)
   (q:∀ H',Same H H' -> D.nx (σ.set i (some v)) H'):tAsg (tOp (rIxL K) (tLst (zB t1 (zB t2 (zB t3 (zB t4 tNil))))) tw) (zG i) D σ H :=
 h1 _ (h2 _ (h3 _ (h4 _ ⟨by show 4 <= sizeLine; decide,fun p hp => hw _ _ ⟨p,_,w,v,rfl,rfl,SqL.of zd,e,q _ (zf hp)⟩⟩)))
theorem qI {K:PySem.W.Frag} {t1 t2 t3 t4 tw:TE} {v1 v2 v3 v4 v:V} {i:Nat} {w:Int} {u:TS} (h1:Evl t1 σ H v1) (h2:Evl t2 σ H v2) (h3:Evl t3 σ H v3) (h4:Evl t4 σ H v4) (hw:∀ H,Evl tw σ H (.int w)) (e:atI [v1,v2,v3,v4] w = some v)
   (q:∀ H',Same H H' -> u D (σ.set i (some v)) H'):tSeq (tAsg (tOp (rIxL K) (tLst (zB t1 (zB t2 (zB t3 (zB t4 tNil))))) tw) (zG i)) u D σ H := ZL h1 h2 h3 h4 hw e q
end
theorem zav {S b:Bx} {w:Nat} (h:w < 4):atI [V.int S.r,.int b.l,.int b.l,.int b.l] (w:Int) = some (.int (trim S b w).l) := by
 match w,h with
 | 0,_ => rfl
 | 1,_ => rfl
 | 2,_ => rfl
 | 3,_ => rfl
theorem zaw {S b:Bx} {w:Nat} (h:w < 4):atI [V.int b.r,.int S.l,.int b.r,.int b.r] (w:Int) = some (.int (trim S b w).r) := by
 match w,h with
 | 0,_ => rfl
 | 1,_ => rfl
 | 2,_ => rfl
 | 3,_ => rfl
theorem zax {S b:Bx} {w:Nat} (h:w < 4):atI [V.int b.t,.int b.t,.int S.b,.int b.t] (w:Int) = some (.int (trim S b w).t) := by
 match w,h with
 | 0,_ => rfl
 | 1,_ => rfl
 | 2,_ => rfl
 | 3,_ => rfl
theorem zay {S b:Bx} {w:Nat} (h:w < 4):atI [V.int b.b,.int b.b,.int b.b,.int S.t] (w:Int) = some (.int (trim S b w).b) := by
 match w,h with
 | 0,_ => rfl
 | 1,_ => rfl
 | 2,_ => rfl
 | 3,_ => rfl
theorem zm.updL {H:Hp} {l:Addr} {xs ys:List V} (hl:H l = some (.lst xs)):∀ {vs:List V} {bs:List Bx},zm H vs bs -> zm (upd H l (.lst ys)) vs bs
 | _,_,.nil => .nil
 | _,_,.cons ⟨p,e,z⟩ t => .cons ⟨p,e,by rw [zq (y9 z hl (by intro z; cases z))]; exact z⟩ (zm.updL hl t)
theorem WN (i j:Int):(if j < i then j else i) = min i j := by omega
theorem WO (i j:Int):(if j > i then j else i) = max i j := by omega
theorem z6 {H:Hp} {p:Addr} {b:Bx} (h:H p = some (.tup (bxV b))) (K:PySem.W.Frag):SqT K H p [.int b.l,.int b.t,.int b.r,.int b.b] := SqT.of h
noncomputable def Zk:Sp := fun vs H Q _ => ∃ (a:Addr) (us:List V) (bs:List Bx) (at_ w n:Nat) (B:Bx),vs = [.ref a,.int at_,.int w,.int n] /\ H a = some (.lst us) /\ zm H us bs /\ z0 bs n n /\ bs[at_]? = some B /\ w < 4 /\ bs.length <= 24 /\
 ∀ (l:Addr) (us':List V) (bs':List Bx) (H':Hp),Same H H' -> H' l = some (.lst us') -> zm H' us' bs' -> z0 bs' n n -> bs'.length <= bs.length -> Q (.ref l) H'
local macro_rules | `(tactic| walk_at "ev") => `(tactic| ((repeat' (first | exact zc rfl | exact zx | refine zY ?_ ?_ | refine wk ?_ ?_ ?_ | refine XR ?_ | refine xF ?_ ?_ | (refine zL ?_ ?_ (by assumption) ?e; case e => rfl))) <;> (first | exact ⟨by decide,by decide⟩ | (show (0:Int) < _; omega) | skip)))
section
variable {P:Program} {w:World} {K:PySem.W.Frag} {mg:Str -> Option Value} {base:Heap}
theorem z5:zC ["boxes","at","way","many","left","top","right","below","strip","found","k","a","b","c","d"] ["boxes","at","way","many"] (zl wV) := ⟨rfl,rfl,rfl,by decide +kernel,rfl,by decide +kernel,by decide +kernel⟩
theorem QS {f:Addr} {fd:FuncData} (F:Fun K "_law_grown" "_law_grown" wV f fd) (tl:mg "len" = none) (tr:mg "range" = none) (tmin:mg "min" = none) (tmax:mg "max" = none):FnOk P w K mg base CX0 1 f fd ["boxes","at","way","many"] Zk := by
 refine F.ok z5 (fun vs H Q E h => ?_) (fun cdv A outer s H vs Q E hr h => ?_)
 · obtain ⟨a,us,bs,at_,w,n,B,rfl,_⟩ := h
   rfl
 · obtain ⟨a,us,bs,at_,w,n,B,rfl,hA,hBs,T,hat,hw,hlen,q⟩ := h
   refine ⟨_,(zg (xi (zn zv (pv 0) (pv 1) (fun _ _ => rfl)) (xI rfl (zE (zp (i := 4) z5.nd rfl (Or.inl rfl)) (zE (zp (i := 5) z5.nd rfl (Or.inl rfl)) (zE (zp (i := 6) z5.nd rfl (Or.inl rfl)) (zE (zp (i := 7) z5.nd rfl (Or.inl rfl)) xm))))))
     (zg (zt (i := 8) z5.nd rfl (Or.inl rfl) (zX (za (zS (za (pv 6) (za (pv 5) (za (zk zQ (pv 6) ze) (za (pv 7) zb))))) (za (zS (za (zk z8 (pv 4) ze) (za (pv 5) (za (pv 4) (za (pv 7) zb))))) zb))))
     (zg (zt (i := 8) z5.nd rfl (Or.inl rfl) (zn zv (zk wS (pv 8) (zX (za (zS (za (pv 4) (za (pv 7) (za (pv 6) (za (zk zQ (pv 7) ze) zb))))) (za (zS (za (pv 4) (za (zk z8 (pv 5) ze) (za (pv 6) (za (pv 5) zb))))) zb)))) (pv 2) (fun _ _ => rfl)))
     (zg (zU (xy (zu yt (zo (Wz rfl) (by rfl) tmin PyProof.Rows.boot_min (za (pv 8) zb)) ze (zr _)) (xh (zu we (zo (WA rfl) (by rfl) tmax PyProof.Rows.boot_max (za (pv 8) zb)) (pv 3) (zr _)))).pt
     (zh (zw (pv 0)))
     zO)
     (zg (zt (i := 9) z5.nd rfl (Or.inl rfl) (zX zb))
     (zg (yF PassesOwn.never rfl (yX rfl tr (za (zo zI (by rfl) tl PySem.boot_len (za (pv 0) zb)) zb)) (zp (i := 10) z5.nd rfl (Or.inl rfl))
     (zg (xi (zn zv (pv 0) (pv 10) (fun _ _ => rfl)) (xI rfl (zE (zp (i := 11) z5.nd rfl (Or.inl rfl)) (zE (zp (i := 12) z5.nd rfl (Or.inl rfl)) (zE (zp (i := 13) z5.nd rfl (Or.inl rfl)) (zE (zp (i := 14) z5.nd rfl (Or.inl rfl)) xm))))))
       (zg (zU (zu yY (pv 10) (pv 1) (zr _))
       (zh (xi (zS (za (zo (Zz rfl) (by rfl) tmin PyProof.Rows.boot_min (za (pv 11) (za (zn zK (pv 8) ze (fun _ _ => rfl)) zb))) (za (zo (Zz rfl) (by rfl) tmin PyProof.Rows.boot_min (za (pv 12) (za (zn zK (pv 8) ze (fun _ _ => rfl)) zb))) (za (zo (Zy rfl) (by rfl) tmax PyProof.Rows.boot_max (za (pv 13) (za (zn zK (pv 8) ze (fun _ _ => rfl)) zb))) (za (zo (Zy rfl) (by rfl) tmax PyProof.Rows.boot_max (za (pv 14) (za (zn zK (pv 8) ze (fun _ _ => rfl)) zb))) zb))))) (xI rfl (zE (zp (i := 11) z5.nd rfl (Or.inl rfl)) (zE (zp (i := 12) z5.nd rfl (Or.inl rfl)) (zE (zp (i := 13) z5.nd rfl (Or.inl rfl)) (zE (zp (i := 14) z5.nd rfl (Or.inl rfl)) xm)))))))
       (zh (zU (yV (zu yt (pv 11) (zn zK (pv 8) ze (fun _ _ => rfl)) (zr _)) (yV (zu yt (zn zK (pv 8) ze (fun _ _ => rfl)) (pv 13) (zr _)) (yV (zu yt (pv 12) (zn zK (pv 8) ze (fun _ _ => rfl)) (zr _)) (xM (zu yt (zn zK (pv 8) ze (fun _ _ => rfl)) (pv 14) (zr _)))))).pt
         (zg (zU (xy (yV (zu yt (pv 2) ze (zr _)) (xM (xy (zu yt (pv 12) (pv 5) (zr _)) (xh (zu we (pv 14) (pv 7) (zr _)))).pt)).pt (xh (yV (zu we (pv 2) ze (zr _)) (xM (xy (zu yt (pv 11) (pv 4) (zr _)) (xh (zu we (pv 13) (pv 6) (zr _)))).pt)).pt)).pt
           (zh (zw (pv 0)))
           zO)
           (zg (zt (i := 11) z5.nd rfl (Or.inl rfl) (zn zv (zX (za (zn zK (pv 8) ze (fun _ _ => rfl)) (za (pv 11) (za (pv 11) (za (pv 11) zb))))) (pv 2) (fun _ _ => rfl)))
           (zg (zt (i := 13) z5.nd rfl (Or.inl rfl) (zn zv (zX (za (pv 13) (za (zn zK (pv 8) ze (fun _ _ => rfl)) (za (pv 13) (za (pv 13) zb))))) (pv 2) (fun _ _ => rfl)))
           (zg (zt (i := 12) z5.nd rfl (Or.inl rfl) (zn zv (zX (za (pv 12) (za (pv 12) (za (zn zK (pv 8) ze (fun _ _ => rfl)) (za (pv 12) zb))))) (pv 2) (fun _ _ => rfl)))
           (zh (zt (i := 14) z5.nd rfl (Or.inl rfl) (zn zv (zX (za (pv 14) (za (pv 14) (za (pv 14) (za (zn zK (pv 8) ze (fun _ _ => rfl)) zb))))) (pv 2) (fun _ _ => rfl))))))))
         zO)))
       (zh (zU (yV (zu yt (pv 11) (pv 13) (zr _)) (xM (zu yt (pv 12) (pv 14) (zr _)))).pt
       (zh (xl (xc PySem.F.plainAttrs_list PySem.F.slot_list_append PySem.F.type_list_append xD (pv 9) (za (zS (za (pv 11) (za (pv 12) (za (pv 13) (za (pv 14) zb))))) zb))))
       zO)))))
     (zh (zw (pv 9))))))))),?_⟩
   obtain ⟨v0,hv0,p0,rfl,hp0⟩ := hBs.get hat
   have la:at_ < bs.length := (List.getElem?_eq_some_iff.mp hat).1
   refine wC (xE (zc rfl) (zc rfl) (SqL.of hA) (zH hv0)) (z6 hp0 _) ?_
   refine xG ?_
   refine zN (zc rfl) (zc rfl) (zY (zc rfl) zx) (zc rfl) fun p1 n1 => ?_
   refine zN (zY (zc rfl) zx) (zc rfl) (zc rfl) (zc rfl) fun p2 n2 => ?_
   refine ⟨by show 2 <= sizeLine; decide,fun l1 nl1 => ?_⟩
   -- the strip
   refine Zj (fun σ H1 => ∃ pS,σ = [some (.ref a),some (.int at_),some (.int w),some (.int n),some (.int B.l),some (.int B.t),some (.int B.r),some (.int B.b),some (.ref pS),none,none,none,none,none,none] /\ Same H H1 /\ H1 pS = some (.tup (bxV (strip B w)))) (fun N hN => ?_) ?_
   · refine ⟨_,rfl,?_⟩
     refine zN (zc rfl) (zc rfl) (zc rfl) (zY (zc rfl) zx) fun p3 n3 => ?_
     refine zN (zc rfl) (zY (zc rfl) zx) (zc rfl) (zc rfl) fun p4 n4 => ?_
     refine ⟨by show 2 <= sizeLine; decide,fun l2 nl2 => ?_⟩
     have S1 := zf (o := .tup [.int B.r,.int B.t,.int (B.r + 1),.int B.b]) n1
     have S2 := zf (o := .tup [.int (B.l - 1),.int B.t,.int B.l,.int B.b]) n2
     have S3 := zf (o := .lst [.ref p1,.ref p2]) nl1
     have S4 := zf (o := .tup [.int B.l,.int B.b,.int B.r,.int (B.b + 1)]) n3
     have S5 := zf (o := .tup [.int B.l,.int (B.t - 1),.int B.r,.int B.t]) n4
     have S6 := zf (o := .lst [.ref p3,.ref p4]) nl2
     refine ⟨l1,l2,[.ref p1,.ref p2],[.ref p3,.ref p4],rfl,rfl,((S4.trans S5).trans S6) _ _ zd,zd,by show 4 <= sizeLine; decide,fun l3 nl3 => ?_⟩
     have S7 := zf (o := .lst [.ref p1,.ref p2,.ref p3,.ref p4]) nl3
     have SA := ((((((S1.trans S2).trans S3).trans S4).trans S5).trans S6).trans S7)
     have e1 := ((((((S2).trans S3).trans S4).trans S5).trans S6).trans S7) p1 _ zd
     have e2 := (((((S3).trans S4).trans S5).trans S6).trans S7) p2 _ zd
     have e3 := (((S5).trans S6).trans S7) p3 _ zd
     have e4 := ((S6).trans S7) p4 _ zd
     refine ⟨_,rfl,?_⟩
     match w,hw with
     | 0,_ => exact ⟨l3,[.ref p1,.ref p2,.ref p3,.ref p4],_,.ref p1,rfl,rfl,SqL.of zd,rfl,hN _ _ ⟨p1,rfl,SA,e1⟩⟩
     | 1,_ => exact ⟨l3,[.ref p1,.ref p2,.ref p3,.ref p4],_,.ref p2,rfl,rfl,SqL.of zd,rfl,hN _ _ ⟨p2,rfl,SA,e2⟩⟩
     | 2,_ => exact ⟨l3,[.ref p1,.ref p2,.ref p3,.ref p4],_,.ref p3,rfl,rfl,SqL.of zd,rfl,hN _ _ ⟨p3,rfl,SA,e3⟩⟩
     | 3,_ => exact ⟨l3,[.ref p1,.ref p2,.ref p3,.ref p4],_,.ref p4,rfl,rfl,SqL.of zd,rfl,hN _ _ ⟨p4,rfl,SA,e4⟩⟩
   clear n1 n2 nl1
   rintro σ H1 ⟨pS,rfl,S1,hS⟩
   obtain ⟨S,hSe⟩ : ∃ S,S = strip B w := ⟨_,rfl⟩
   rw [<- hSe] at hS
   have tS := z6 hS K
   have early:∀ {D:Ends} {σ:St} {H2:Hp},σ[0]? = some (some (.ref a)) -> D.rt = Q -> Same H H2 -> tRet (tVar 0) D σ H2 := fun {D σ H2} e1 e2 S2 => ⟨_,e1,by rw [e2]; exact q a us bs H2 S2 (S2 _ _ hA) (hBs.same S2) T (Nat.le_refl _)⟩
   -- the least and the greatest
   refine Zj (fun σ H2 => σ = [some (.ref a),some (.int at_),some (.int w),some (.int n),some (.int B.l),some (.int B.t),some (.int B.r),some (.int B.b),some (.ref pS),none,none,none,none,none,none] /\ H2 = H1 /\ (0 <= S.l /\ 0 <= S.t) /\ (S.r <= n /\ S.b <= n)) (fun N hN => ?_) ?_
   · refine ⟨_,rfl,pS,[S.l,S.t,S.r,S.b],rfl,tS,Nat.succ_pos _,fun m _ hm => ⟨_,_,rfl,rfl,_,rfl,?_⟩⟩
     refine ite2 (fun c1 => ?_) (fun c1 => ?_)
     · exact iteT (early rfl rfl S1)
     · refine ⟨_,rfl,pS,[S.l,S.t,S.r,S.b],rfl,tS,Nat.succ_pos _,fun M _ hM => ⟨_,rfl,_,_,rfl,rfl,_,rfl,?_⟩⟩
       refine ite2 (fun c2 => ?_) (fun c2 => ?_)
       · exact early rfl rfl S1
       · have c1':¬ m < 0 := fun z => c1 (decide_eq_true z)
         have c2':¬ (n:Int) < M := fun z => c2 (decide_eq_true z)
         have a1 := hm S.l (by simp)
         have a2 := hm S.t (by simp)
         have a3 := hM S.r (by simp)
         have a4 := hM S.b (by simp)
         exact hN _ _ ⟨rfl,rfl,⟨by omega,by omega⟩,by omega,by omega⟩
   rintro σ H2 ⟨rfl,e2,g0,g1⟩
   have e2 := e2.symm
   subst e2
   refine xG ⟨by show 0 <= sizeLine; decide,fun lf nlf => ?_⟩
   have Sf := zf (o := .lst []) nlf
   refine ⟨_,rfl,_,_,rfl,.inl (SqL.of ((S1.trans Sf) _ _ hA)),_,rfl,by omega,by rw [hBs.len]; omega,?_⟩
   rw [hBs.len]
   refine yP (lo := 0) (n := bs.length) (fun i σ H3 => ∃ (kv av bv cv dv:Option V) (vs:List V),σ = [some (.ref a),some (.int at_),some (.int w),some (.int n),some (.int B.l),some (.int B.t),some (.int B.r),some (.int B.b),some (.ref pS),some (.ref lf),kv,av,bv,cv,dv] /\ Same H1 H3 /\
     H3 lf = some (.lst vs) /\ zm H3 vs (grTo bs at_ S w i) /\ ∀ k b,k < i -> bs[k]? = some b -> k ≠ at_ -> hit S b -> ¬ bad B b w) ⟨none,none,none,none,none,[],rfl,Sf,zd,.nil,fun k b hk => by omega⟩ ?_ ?_
   · rintro i σ H3 hi ⟨kv,av,bv,cv,dv,vs,rfl,S3,hf,hB3,hbad⟩
     refine xX ?_
     have eb:bs[i]? = some bs[i] := List.getElem?_eq_getElem hi
     generalize bs[i] = b at eb
     obtain ⟨v,hv,p,rfl,hp⟩ := hBs.get eb
     have S13 := S1.trans S3
     refine wC (xE (zc rfl) (zc (v := .int (0 + (i:Int))) rfl) (SqL.of (S13 _ _ hA)) (by rw [Int.zero_add]; exact zH hv)) (z6 (S13 _ _ hp) _) ?_
     refine Zj (fun σ H4 => ∃ c,c = newB at_ S w i b /\ σ = [some (.ref a),some (.int at_),some (.int w),some (.int n),some (.int B.l),some (.int B.t),some (.int B.r),some (.int B.b),some (.ref pS),some (.ref lf),some (.int (0 + (i:Int))),some (.int c.l),some (.int c.t),some (.int c.r),some (.int c.b)] /\ Same H3 H4 /\
       (i ≠ at_ -> hit S b -> ¬ bad B b w)) (fun N hN => ?_) ?_
     · have tS3 := z6 (S3 _ _ hS) K
       refine wB (p := 0 + (i:Int) = at_) (zZ (wT (zc rfl) (zc rfl))) (fun c1 => ?_) (fun c1 => ?_)
       · have ei:i = at_ := by omega
         refine Ym (v1 := .int (join S b).l) (v2 := .int (join S b).t) (v3 := .int (join S b).r) (v4 := .int (join S b).b) (by rw [show (join S b).l = (if S.l < b.l then S.l else b.l) from (WN _ _).symm]; exact xF (zc rfl) (zL (zc rfl) zx tS3 rfl)) (by rw [show (join S b).t = (if S.t < b.t then S.t else b.t) from (WN _ _).symm]; exact xF (zc rfl) (zL (zc rfl) zx tS3 rfl)) (by rw [show (join S b).r = (if S.r > b.r then S.r else b.r) from (WO _ _).symm]; exact xF (zc rfl) (zL (zc rfl) zx tS3 rfl)) (by rw [show (join S b).b = (if S.b > b.b then S.b else b.b) from (WO _ _).symm]; exact xF (zc rfl) (zL (zc rfl) zx tS3 rfl)) fun p5 n5 => ?_
         refine ⟨p5,_,rfl,SqT.of zd,rfl,_,_,rfl,_,_,rfl,_,_,rfl,_,_,rfl,rfl,?_⟩
         exact hN _ _ ⟨join S b,by unfold newB; rw [if_pos ei],rfl,zf n5,fun z => absurd ei z⟩
       · have ei:i ≠ at_ := by omega
         refine wB (p := b.l < S.r /\ S.l < b.r /\ b.t < S.b /\ S.t < b.b) (yE (zZ (zY (zc rfl) (zL (zc rfl) zx tS3 rfl))) (yE (zZ (zY (zL (zc rfl) zx tS3 rfl) (zc rfl))) (yE (zZ (zY (zc rfl) (zL (zc rfl) zx tS3 rfl))) (zZ (zY (zL (zc rfl) zx tS3 rfl) (zc rfl)))))) (fun c2 => ?_) (fun c2 => ?_)
         · refine WG (p := (((w:Int) < 2 /\ (b.t < B.t \/ B.b < b.b)) \/ (1 < (w:Int) /\ (b.l < B.l \/ B.r < b.r)))) (Yl (yE (zZ (by walk_at "ev")) (Yl (zZ (by walk_at "ev")) (zZ (by walk_at "ev")))) (yE (zZ (by walk_at "ev")) (Yl (zZ (by walk_at "ev")) (zZ (by walk_at "ev"))))) (fun c3 => ?_) (fun c3 => ?_)
           · exact early rfl rfl S13
           · have nb:¬ bad B b w := by unfold bad; omega
             refine wD ?_
             refine qI (zL (zc rfl) zx tS3 rfl) (zc rfl) (zc rfl) (zc rfl) (fun _ => zc rfl) (zav hw) fun H5 S5 => ?_
             have tS5 := z6 ((S3.trans S5) _ _ hS) K
             refine qI (zc rfl) (zL (zc rfl) zx tS5 rfl) (zc rfl) (zc rfl) (fun _ => zc rfl) (zaw hw) fun H6 S6 => ?_
             have tS6 := z6 ((S3.trans (S5.trans S6)) _ _ hS) K
             refine qI (zc rfl) (zc rfl) (zL (zc rfl) zx tS6 rfl) (zc rfl) (fun _ => zc rfl) (zax hw) fun H7 S7 => ?_
             have tS7 := z6 ((S3.trans (S5.trans (S6.trans S7))) _ _ hS) K
             refine ZL (zc rfl) (zc rfl) (zc rfl) (zL (zc rfl) zx tS7 rfl) (fun _ => zc rfl) (zay hw) fun H8 S8 => ?_
             exact hN _ _ ⟨trim S b w,by unfold newB; rw [if_neg ei,if_pos (show hit S b from c2)],rfl,S5.trans (S6.trans (S7.trans S8)),fun _ _ => nb⟩
         · refine wD ?_
           exact hN _ _ ⟨b,by unfold newB; rw [if_neg ei,if_neg (show ¬ hit S b from c2)],rfl,fun _ _ e => e,fun _ z => absurd z c2⟩
     · rintro σ H4 ⟨c,hc,rfl,S4,nb⟩
       have nb':∀ k b',k < i + 1 -> bs[k]? = some b' -> k ≠ at_ -> hit S b' -> ¬ bad B b' w := fun k b' hk e1 e2 e3 => by
         by_cases ek:k = i
         · subst ek
           rw [eb] at e1
           cases e1
           exact nb e2 e3
         · exact hbad k b' (by omega) e1 e2 e3
       have hg := jC bs at_ S w i
       have lv := hB3.len
       refine wB (p := c.l < c.r /\ c.t < c.b) (yE (zZ (by walk_at "ev")) (zZ (by walk_at "ev"))) (fun c4 => ?_) (fun c4 => ?_)
       · refine ⟨_,rfl,.inl ⟨rfl,_,SqL.of (S4 _ _ hf)⟩,?_⟩
         refine zN (zc rfl) (zc rfl) (zc rfl) (zc rfl) fun p9 n9 => ?_
         have S9 := zf (o := .tup [.int c.l,.int c.t,.int c.r,.int c.b]) n9
         have hf9 := S9 _ _ (S4 _ _ hf)
         refine ⟨lf,vs,_,rfl,rfl,hf9,Nat.lt_of_le_of_lt (show vs.length <= 1000 by omega) (by decide),?_⟩
         have Sx:Same H1 (upd (upd H4 p9 (.tup [.int c.l,.int c.t,.int c.r,.int c.b])) lf (.lst (vs ++ [.ref p9]))) := yH (S3.trans (S4.trans S9)) nlf
         refine ⟨_,_,_,_,_,vs ++ [.ref p9],rfl,Sx,zd,?_,nb'⟩
         rw [ZJ eb]
         have e0:one at_ S w i b = [c] := by unfold one; rw [<- hc]; exact if_pos c4
         rw [e0]
         exact zm.append (zm.updL hf9 (hB3.same (S4.trans S9))) (.cons ⟨p9,rfl,by rw [zq (y9 (S9 _ _ (S4 _ _ hf)) zd (by intro z; cases z)).symm]; exact zd⟩ .nil)
       · refine wD ⟨_,_,_,_,_,vs,rfl,S3.trans S4,S4 _ _ hf,?_,nb'⟩
         rw [ZJ eb]
         have e0:one at_ S w i b = [] := by unfold one; rw [<- hc]; exact if_neg c4
         rw [e0,List.append_nil]
         exact hB3.same S4
   · rintro σ H3 ⟨kv,av,bv,cv,dv,vs,rfl,S3,hf,hB3,hbad⟩
     refine ⟨_,rfl,q lf vs _ H3 (S1.trans S3) hf hB3 ?_ (jC _ _ _ _ _)⟩
     rw [hSe]
     rw [hSe] at g0 g1 hbad
     exact Xe T hat hw g0 g1 fun k b hk => hbad k b (List.getElem?_eq_some_iff.mp hk).1 hk
end
end _K4
namespace _K4
open PySem _L2 _Til
theorem ZM {bs:List Bx} {n m:Int} (T:z0 bs n m) (hn:0 < n) (hm:0 < m):0 < bs.length := by
 cases bs with
 | nil =>
   have q := T.one 0 0 (by omega) hn (by omega) hm
   cases q
 | cons b bs => exact Nat.succ_pos _
theorem WP (xs:List V) (k:Nat) (h:k <= xs.length):cutV xs none (some (k:Int)) = xs.take k := by
 unfold cutV
 rw [_HT.Yf,_HT.qW,List.drop_zero,Nat.sub_zero,Nat.min_eq_left h]
theorem ZN (xs:List V) (k:Nat) (h:k <= xs.length):cutV xs (some (k:Int)) none = xs.drop k := by
 unfold cutV
 rw [_HT.Yf,_HT.qW,Nat.min_eq_left h]
 exact List.take_of_length_le (by rw [List.length_drop]; exact Nat.le_refl _)
theorem zaz {H:Hp} {p1 p2 p3:Addr} {o1 o2 o3:HO} {R:Hp -> Prop} (n1:H p1 = none) (n2:(upd H p1 o1) p2 = none) (n3:(upd (upd H p1 o1) p2 o2) p3 = none) (k:∀ H',Same H H' -> H' p3 = some o3 -> R H'):R (upd (upd (upd H p1 o1) p2 o2) p3 o3) :=
 k _ ((zf n1).trans ((zf n2).trans (zf n3))) zd
theorem qj {H3 H4:Hp} {us vs:List V} {bs nb:List Bx} (at_:Nat) (h:zm H3 us bs) (S:Same H3 H4) (h':zm H4 vs nb):zm H4 (us.take at_ ++ us.drop (at_ + 1) ++ vs) (bs.take at_ ++ bs.drop (at_ + 1) ++ nb) :=
 zm.append (zm.append ((h.same S).take at_) ((h.same S).drop (at_ + 1))) h'
theorem jE {α:Type} {us vs:List α} {at_:Nat} (h:at_ < us.length):(us.take at_ ++ us.drop (at_ + 1) ++ vs).length + 1 = us.length + vs.length := by
 rw [List.length_append,List.length_append,List.length_take,List.length_drop]
 omega
noncomputable def Yt (K:PySem.W.Frag):Sp := fun vs H Q _ => ∃ (c:Addr) (ns:List Int) (n:Nat),vs = [.ref c,.int n] /\ SqL K H c (ns.map V.int) /\ 0 < n /\
 ∀ (l:Addr) (us:List V) (bs:List Bx) (H':Hp),Same H H' -> H' l = some (.lst us) -> zm H' us bs -> z0 bs n n -> bs.length <= 24 -> Q (.ref l) H'
theorem int_at {ns:List Int} {i:Nat} {y:V} (h:(ns.map V.int)[i]? = some y):∃ z,y = V.int z /\ ns[i]? = some z := by
 rw [List.getElem?_map] at h
 cases e:ns[i]? with
 | none => rw [e] at h; cases h
 | some z => rw [e] at h; exact ⟨z,(Option.some.inj h).symm,rfl⟩
local macro_rules | `(tactic| walk_at "ev") => `(tactic| ((repeat' (first | exact zc rfl | exact zx | refine zY ?_ ?_ | refine wk ?_ ?_ ?_ | refine XR ?_ | refine xF ?_ ?_ | (refine zL ?_ ?_ (by assumption) ?e; case e => rfl))) <;> (first | exact ⟨by decide,by decide⟩ | (show (0:Int) < _; omega) | skip)))
section
variable {P:Program} {w:World} {K:PySem.W.Frag} {mg:Str -> Option Value} {base:Heap}
theorem yB:zC ["cells","many","boxes","cell","at","left","top","right","below","rest","others","x","y"] ["cells","many"] (zl ja) := ⟨rfl,rfl,rfl,by decide +kernel,rfl,by decide +kernel,by decide +kernel⟩
theorem Jx {f fW fG:Addr} {fd fdW fdG:FuncData} (F:Fun K "_law_grid" "_law_grid" ja f fd) (tl:mg "len" = none) (Wh:Callee P w K mg base CX0 1 "_law_wheel" fW fdW ["box","rest"] Zi)
   (Gr:Callee P w K mg base CX0 1 "_law_grown" fG fdG ["boxes","at","way","many"] Zk):FnOk P w K mg base CX0 2 f fd ["cells","many"] (Yt K) := by
 refine F.ok yB (fun vs H Q E h => ?_) (fun cdv A outer s H vs Q E hr h => ?_)
 · obtain ⟨c,ns,n,rfl,_⟩ := h
   rfl
 · obtain ⟨c,ns,n,rfl,hS,hn,q⟩ := h
   refine ⟨_,(zg (zt (i := 2) yB.nd rfl (Or.inl rfl) (zX (za (zS (za ze (za ze (za (pv 1) (za (pv 1) zb))))) zb)))
     (zg (yF PassesOwn.never rfl (yo (pv 0)) (zp (i := 3) yB.nd rfl (Or.inl rfl))
     (zg (zt (i := 4) yB.nd rfl (Or.inl rfl) (zk zM (zk yw (pv 3) ze) (zo zI (by rfl) tl PySem.boot_len (za (pv 2) zb))))
       (zg (xi (zn zv (pv 2) (pv 4) (fun _ _ => rfl)) (xI rfl (zE (zp (i := 5) yB.nd rfl (Or.inl rfl)) (zE (zp (i := 6) yB.nd rfl (Or.inl rfl)) (zE (zp (i := 7) yB.nd rfl (Or.inl rfl)) (zE (zp (i := 8) yB.nd rfl (Or.inl rfl)) xm))))))
       (zg (zt (i := 9) yB.nd rfl (Or.inl rfl) (zk yw (pv 3) ze))
       (zg (zt (i := 10) yB.nd rfl (Or.inl rfl) (zk wS (yg xN (pv 2) y7 (yc (pv 4))) (yg xN (pv 2) (yc (zk zQ (pv 4) ze)) y7)))
       (zh (zU (yV (zu yY (zk zM (pv 3) ze) ze (zr _)) (yV (zu we (zk z8 (pv 7) (pv 5)) ze (zr _)) (xM (zu yt (zo zI (by rfl) tl PySem.boot_len (za (pv 2) zb)) ze (zr _))))).pt
       (zg (zt (i := 11) yB.nd rfl (Or.inl rfl) (zk zQ (zk zQ (pv 5) ze) (zk zM (pv 9) (zk z8 (zk z8 (pv 7) (pv 5)) ze))))
         (zh (zt (i := 2) yB.nd rfl (Or.inl rfl) (zk wS (pv 10) (zX (za (zS (za (pv 5) (za (pv 6) (za (pv 11) (za (pv 8) zb))))) (za (zS (za (pv 11) (za (pv 6) (za (pv 7) (za (pv 8) zb))))) zb)))))))
       (zh (zU (yV (zu yY (zk zM (pv 3) ze) ze (zr _)) (yV (zu we (zk z8 (pv 8) (pv 6)) ze (zr _)) (xM (zu yt (zo zI (by rfl) tl PySem.boot_len (za (pv 2) zb)) ze (zr _))))).pt
         (zg (zt (i := 12) yB.nd rfl (Or.inl rfl) (zk zQ (zk zQ (pv 6) ze) (zk zM (pv 9) (zk z8 (zk z8 (pv 8) (pv 6)) ze))))
           (zh (zt (i := 2) yB.nd rfl (Or.inl rfl) (zk wS (pv 10) (zX (za (zS (za (pv 5) (za (pv 6) (za (pv 7) (za (pv 12) zb))))) (za (zS (za (pv 5) (za (pv 12) (za (pv 7) (za (pv 8) zb))))) zb)))))))
         (zh (zU (yV (zu yY (zk zM (pv 3) ze) ze (zr _)) (yV (zu we (zk z8 (pv 7) (pv 5)) ze (zr _)) (yV (zu we (zk z8 (pv 8) (pv 6)) ze (zr _)) (xM (zu yt (zo zI (by rfl) tl PySem.boot_len (za (pv 2) zb)) ze (zr _)))))).pt
           (zh (zt (i := 2) yB.nd rfl (Or.inl rfl) (zk wS (pv 10) (zF Wh.ok hr rfl Wh.bound Wh.kp Wh.bd .nil zV (za (zn zv (pv 2) (pv 4) (fun _ _ => rfl)) (za (pv 9) zb))))))
           (zh (zt (i := 2) yB.nd rfl (Or.inl rfl) (zF Gr.ok hr rfl Gr.bound Gr.kp Gr.bd .nil zV (za (pv 2) (za (pv 4) (za (zk zM (pv 9) ze) (za (pv 1) zb))))))))))))))))))
     (zh (zw (pv 2))))),?_⟩
   refine xG ?_
   refine zN zx zx (zc rfl) (zc rfl) fun p1 n1 => ?_
   refine ⟨by show 1 <= sizeLine; decide,fun l0 nl0 => ?_⟩
   have S1 := zf (o := .tup [.int 0,.int 0,.int n,.int n]) n1
   have S2 := zf (o := .lst [.ref p1]) nl0
   refine ⟨_,rfl,c,rfl,⟨_,(S1.trans S2).seq hS⟩,?_⟩
   refine wx (K := K) (a := c) (xs := ns.map V.int) (fun i σ H2 => ∃ (l:Addr) (us:List V) (bs:List Bx) (o3 o4 o5 o6 o7 o8 o9 o10 o11 o12:Option V),σ = [some (.ref c),some (.int n),some (.ref l),o3,o4,o5,o6,o7,o8,o9,o10,o11,o12] /\ Same H H2 /\ H2 l = some (.lst us) /\ zm H2 us bs /\ z0 bs n n /\ bs.length <= 24)
     ⟨l0,[.ref p1],[⟨0,0,n,n⟩],none,none,none,none,none,none,none,none,none,none,rfl,S1.trans S2,zd,.cons ⟨p1,rfl,S2 _ _ zd⟩ .nil,Xb (by omega) (by omega),by show 1 <= 24; decide⟩
     (fun i σ H2 _ h9 => by obtain ⟨_,_,_,_,_,_,_,_,_,_,_,_,_,_,s2,_⟩ := h9; exact (s2.seq hS)) ?_ ?_
   · rintro i y σ H2 hi ⟨l,us,bs,o3,o4,o5,o6,o7,o8,o9,o10,o11,o12,rfl,S3,hl,hB,T,hlen⟩
     obtain ⟨z,rfl,_⟩ := int_at hi
     refine xX ?_
     have lu := hB.len
     have hpos := ZM T (show (0:Int) < n by omega) (by omega)
     obtain ⟨at_,hat⟩ : ∃ at_:Nat,(at_:Int) = z / 5 % us.length := ⟨(z / 5 % us.length).toNat,Int.toNat_of_nonneg (Int.emod_nonneg _ (by omega))⟩
     have hlt:at_ < bs.length := by
       have := Int.emod_lt_of_pos (z / 5) (show (0:Int) < us.length by omega)
       omega
     have eb:bs[at_]? = some bs[at_] := List.getElem?_eq_getElem hlt
     generalize bs[at_] = B at eb
     obtain ⟨v,hv,p,rfl,hp⟩ := hB.get eb
     have oB := T.wf B (List.mem_of_getElem? eb)
     refine yx (v := .int at_) (by rw [hat]; exact wk (wk (zc rfl) zx ⟨by decide,by decide⟩) (wA (zc rfl) (SqL.of hl)) (show (0:Int) < us.length by omega)) ?_
     refine wC (xE (zc rfl) (zc rfl) (SqL.of hl) (zH hv)) (z6 hp _) ?_
     refine yx (v := .int (z / 120)) (wk (zc rfl) zx ⟨by decide,by decide⟩) ?_
     refine ⟨_,rfl,_,rfl,_,rfl,l,us,rfl,SqL.of hl,fun p1 n1 => ?_⟩
     refine ⟨_,rfl,_,rfl,_,_,rfl,rfl,_,rfl,l,us,rfl,SqL.of (zf n1 _ _ hl),fun p2 n2 => ?_⟩
     refine ⟨p1,p2,_,_,rfl,rfl,zf n2 _ _ zd,zd,?_,fun p3 n3 => ?_⟩
     · have a1 := yS us none (some (at_:Int))
       have a2 := yS us (some ((at_:Int) + 1)) none
       exact Nat.le_trans (show _ <= 1000 by omega) (by decide)
     refine zaz (R := fun H' => _) n1 n2 n3 fun H3 S4 h3 => ?_
     have e1:cutV us none (some (at_:Int)) = us.take at_ := WP us at_ (by omega)
     have e2:cutV us (some ((at_:Int) + 1)) none = us.drop (at_ + 1) := ZN us (at_ + 1) (by omega)
     rw [e1,e2] at h3
     clear n1 n2 n3
     have hl3 := S4 _ _ hl
     have hp3 := S4 _ _ hp
     have S34 := S3.trans S4
     have hout:(us.take at_ ++ us.drop (at_ + 1)).length <= 24 := by rw [List.length_append,List.length_take,List.length_drop]; omega
     dsimp only
     refine wB (p := z % 5 = 0 /\ 1 < B.r - B.l /\ (us.length:Int) < 24) (yE (zZ (wT (by walk_at "ev") zx)) (yE (zZ (by walk_at "ev")) (zZ (by exact zY (wA (zc rfl) (SqL.of hl3)) zx)))) (fun c1 => ?_) (fun c1 => ?_)
     · have x1 := Int.emod_nonneg (z / 120) (show B.r - B.l - 1 ≠ 0 by omega)
       have x2 := Int.emod_lt_of_pos (z / 120) (show (0:Int) < B.r - B.l - 1 by omega)
       obtain ⟨x,hx⟩ : ∃ x,x = B.l + 1 + z / 120 % (B.r - B.l - 1) := ⟨_,rfl⟩
       refine yx (v := .int x) (by rw [hx]; walk_at "ev") ?_
       refine ⟨_,rfl,?_⟩
       refine zN (zc rfl) (zc rfl) (zc rfl) (zc rfl) fun q1 m1 => ?_
       refine zN (zc rfl) (zc rfl) (zc rfl) (zc rfl) fun q2 m2 => ?_
       refine ⟨by show 2 <= sizeLine; decide,fun q3 m3 => ?_⟩
       have U1 := zf (o := .tup [.int B.l,.int B.t,.int x,.int B.b]) m1
       have U2 := zf (o := .tup [.int x,.int B.t,.int B.r,.int B.b]) m2
       have U3 := zf (o := .lst [.ref q1,.ref q2]) m3
       refine ⟨p3,q3,_,_,rfl,rfl,(U1.trans (U2.trans U3)) _ _ h3,zd,Nat.le_trans (show _ <= 26 by show _ + 2 <= 26; omega) (by decide),fun l' n' => ?_⟩
       have U4 := zf (o := .lst (us.take at_ ++ us.drop (at_ + 1) ++ [.ref q1,.ref q2])) n'
       exact ⟨l',_,bs.take at_ ++ bs.drop (at_ + 1) ++ [⟨B.l,B.t,x,B.b⟩,⟨x,B.t,B.r,B.b⟩],_,_,_,_,_,_,_,_,_,_,rfl,S34.trans (U1.trans (U2.trans (U3.trans U4))),zd,
         qj at_ hB (S4.trans (U1.trans (U2.trans (U3.trans U4)))) (.cons ⟨q1,rfl,(U2.trans (U3.trans U4)) _ _ zd⟩ (.cons ⟨q2,rfl,(U3.trans U4) _ _ zd⟩ .nil)),
         qg T eb (WJ oB (by omega) (by omega)) (WH (by omega) (by omega)),by have := jE (vs := [(⟨B.l,B.t,x,B.b⟩ : Bx),⟨x,B.t,B.r,B.b⟩]) hlt; simp only [List.length_cons,List.length_nil] at this; omega⟩
     refine wB (p := z % 5 = 1 /\ 1 < B.b - B.t /\ (us.length:Int) < 24) (yE (zZ (wT (by walk_at "ev") zx)) (yE (zZ (by walk_at "ev")) (zZ (by exact zY (wA (zc rfl) (SqL.of hl3)) zx)))) (fun c2 => ?_) (fun c2 => ?_)
     · have x1 := Int.emod_nonneg (z / 120) (show B.b - B.t - 1 ≠ 0 by omega)
       have x2 := Int.emod_lt_of_pos (z / 120) (show (0:Int) < B.b - B.t - 1 by omega)
       obtain ⟨y,hy⟩ : ∃ y,y = B.t + 1 + z / 120 % (B.b - B.t - 1) := ⟨_,rfl⟩
       refine yx (v := .int y) (by rw [hy]; walk_at "ev") ?_
       refine ⟨_,rfl,?_⟩
       refine zN (zc rfl) (zc rfl) (zc rfl) (zc rfl) fun q1 m1 => ?_
       refine zN (zc rfl) (zc rfl) (zc rfl) (zc rfl) fun q2 m2 => ?_
       refine ⟨by show 2 <= sizeLine; decide,fun q3 m3 => ?_⟩
       have U1 := zf (o := .tup [.int B.l,.int B.t,.int B.r,.int y]) m1
       have U2 := zf (o := .tup [.int B.l,.int y,.int B.r,.int B.b]) m2
       have U3 := zf (o := .lst [.ref q1,.ref q2]) m3
       refine ⟨p3,q3,_,_,rfl,rfl,(U1.trans (U2.trans U3)) _ _ h3,zd,Nat.le_trans (show _ <= 26 by show _ + 2 <= 26; omega) (by decide),fun l' n' => ?_⟩
       have U4 := zf (o := .lst (us.take at_ ++ us.drop (at_ + 1) ++ [.ref q1,.ref q2])) n'
       exact ⟨l',_,bs.take at_ ++ bs.drop (at_ + 1) ++ [⟨B.l,B.t,B.r,y⟩,⟨B.l,y,B.r,B.b⟩],_,_,_,_,_,_,_,_,_,_,rfl,S34.trans (U1.trans (U2.trans (U3.trans U4))),zd,
         qj at_ hB (S4.trans (U1.trans (U2.trans (U3.trans U4)))) (.cons ⟨q1,rfl,(U2.trans (U3.trans U4)) _ _ zd⟩ (.cons ⟨q2,rfl,(U3.trans U4) _ _ zd⟩ .nil)),
         qg T eb (WK oB (by omega) (by omega)) (WI (by omega) (by omega)),by have := jE (vs := [(⟨B.l,B.t,B.r,y⟩ : Bx),⟨B.l,y,B.r,B.b⟩]) hlt; simp only [List.length_cons,List.length_nil] at this; omega⟩
     refine wB (p := z % 5 = 4 /\ 2 < B.r - B.l /\ 2 < B.b - B.t /\ (us.length:Int) < 21) (yE (zZ (wT (by walk_at "ev") zx)) (yE (zZ (by walk_at "ev")) (yE (zZ (by walk_at "ev")) (zZ (by exact zY (wA (zc rfl) (SqL.of hl3)) zx))))) (fun c3 => ?_) (fun c3 => ?_)
     · refine ⟨_,rfl,_,rfl,_,rfl,_,_,_,_,rfl,rfl,SqL.of hl3,zH hv,_,rfl,.ref p,B,z / 120,rfl,⟨p,rfl,hp3⟩,by omega,by omega,fun lw uw nb H4 S5 nlw hlw hBw lnb cw okw => ?_⟩
       have luw := hBw.len
       refine ⟨p3,lw,_,_,rfl,rfl,S5 _ _ h3,hlw,Nat.le_trans (show _ <= 40 by omega) (by decide),fun l' n' => ?_⟩
       have U4 := zf (o := .lst (us.take at_ ++ us.drop (at_ + 1) ++ uw)) n'
       exact ⟨l',_,bs.take at_ ++ bs.drop (at_ + 1) ++ nb,_,_,_,_,_,_,_,_,_,_,rfl,S34.trans (S5.trans U4),zd,qj at_ hB (S4.trans (S5.trans U4)) (hBw.same U4),qg T eb (okw n n oB) cw,by have := jE (vs := nb) hlt; omega⟩
     · obtain ⟨w',hw'⟩ : ∃ w':Nat,(w':Int) = z / 120 % 4 := ⟨(z / 120 % 4).toNat,Int.toNat_of_nonneg (Int.emod_nonneg _ (by omega))⟩
       refine ⟨_,rfl,_,rfl,_,rfl,_,_,rfl,rfl,(by show (0:Int) < 4; decide),_,rfl,l,us,bs,at_,w',n,B,(by rw [hw']; rfl),hl3,hB.same S4,T,eb,by omega,hlen,fun l' us' bs' H4 S5 h5 hB5 T5 hlen5 => ?_⟩
       exact ⟨l',us',bs',_,_,_,_,_,_,_,_,_,_,rfl,S34.trans S5,h5,hB5,T5,by omega⟩
   · rintro σ H2 ⟨l,us,bs,o3,o4,o5,o6,o7,o8,o9,o10,o11,o12,rfl,S3,hl,hB,T,hlen⟩
     exact ⟨_,rfl,q l us bs H2 S3 hl hB T hlen⟩
end
end _K4
namespace _L2
open PySem PySem.Spec PyProof.Rows PySem.W
inductive TyX (K:Frag) (H:Hp):V -> Value -> Prop where
 | of {x:V} {t:Value} (h:TyOf K H x t):TyX K H x t
 | exc {ea C:Addr} (e:H ea = some (.ext (yp ea C))) (c:yQ K C):TyX K H (.ref ea) (.ref C)
noncomputable def clsV:V -> Value
 | .ref a => .ref a
 | .ty n => .type n
 | _ => .none
noncomputable def jj:V -> Bool
 | .ref _ => true
 | .ty _ => true
 | _ => false
theorem Yu:∀ {c:V} {u:Value},jj c = true -> RelV c u -> u = clsV c
 | .ref _,_,_,r => r
 | .ty _,_,_,r => r
theorem Yv:∀ {cs:List V} {us:List Value},cs.all jj = true -> Vals cs us -> us = cs.map clsV
 | _,_,_,.nil => rfl
 | c :: cs,u :: us,h,.cons r t => by
   rw [List.all_cons,Bool.and_eq_true] at h
   rw [Yu h.1 r,Yv h.2 t]
   rfl
section
variable {X:Cx}
theorem Xy {pins:List (Addr × Obj)} {σ:St} {H:Hp} {s:Shared} {x:V} {u t:Value} (I:Inv X pins σ H s) (rx:RelV x u) (ty:TyX X.K H x t):∃ J,KitX X.K u t J /\ J s.heap /\ u ≠ .builtin "__main__.__loader__#opaque" := by
 cases ty with
 | exc e c =>
   cases (show u = Value.ref _ from rx)
   obtain ⟨J,_⟩ := I.hok _ _ e
   exact ⟨_,QK c,J,fun z => nomatch z⟩
 | of ty =>
   cases ty with
   | non => cases (show u = Value.none from rx); exact ⟨_,kitx_none,True.intro,fun z => nomatch z⟩
   | bl y => cases (show u = Value.bool y from rx); exact ⟨_,kitx_bool,True.intro,fun z => nomatch z⟩
   | int i => obtain ⟨t,q⟩ := (show ∃ t,u = Value.int i t from rx); cases q; exact ⟨_,kitx_int,True.intro,fun z => nomatch z⟩
   | str y => obtain ⟨t,q⟩ := (show ∃ t,u = Value.str y t from rx); cases q; exact ⟨_,kitx_str,True.intro,fun z => nomatch z⟩
   | flt y => obtain ⟨t,q⟩ := (show ∃ t,u = Value.float y t from rx); cases q; exact ⟨_,kitx_float,True.intro,fun z => nomatch z⟩
   | @lst a xs ea =>
     cases (show u = Value.ref a from rx)
     obtain ⟨_,_,n,_,h1⟩ := (show z7 X.prog X.w H s.heap a (.lst xs) from I.hok a _ ea)
     exact ⟨_,kitx_list,⟨_,h1,rfl⟩,fun z => nomatch z⟩
   | @frz a ob xs ea =>
     cases (show u = Value.ref a from rx)
     obtain ⟨_,_,_,n,_,h1⟩ := (show z7 X.prog X.w H s.heap a (.frz ob (.lst xs)) from I.hok a _ ea)
     exact ⟨_,kitx_list,⟨_,h1,rfl⟩,fun z => nomatch z⟩
   | @tup a xs ea =>
     cases (show u = Value.ref a from rx)
     obtain ⟨_,_,_,p⟩ := (show z7 X.prog X.w H s.heap a (.tup xs) from I.hok a _ ea)
     obtain ⟨o,h1,h2,_⟩ := p
     exact ⟨_,kitx_tuple,⟨o,h1,h2⟩,fun z => nomatch z⟩
   | @dK a kvs ea =>
     cases (show u = Value.ref a from rx)
     obtain ⟨_,_,vs,_,p⟩ := (show z7 X.prog X.w H s.heap a (.dK kvs) from I.hok a _ ea)
     obtain ⟨o,es,ep,h1,h2,_⟩ := p
     exact ⟨_,kitx_dict,⟨o,h1,h2.1⟩,fun z => nomatch z⟩
   | @dT a kvs ea =>
     cases (show u = Value.ref a from rx)
     obtain ⟨_,_,xs,_,o,es,ep,h1,h2,_⟩ := (show z7 X.prog X.w H s.heap a (.dT kvs) from I.hok a _ ea)
     exact ⟨_,kitx_dict,⟨o,h1,h2.1⟩,fun z => nomatch z⟩
   | @ins a C dx fs ea cl ha hn htk hm =>
     cases (show u = Value.ref a from rx)
     obtain ⟨mA,O,_⟩ := Jp I.hok ea
     obtain ⟨od,J,_⟩ := O.look
     exact ⟨_,kitx_own (cl.get _) cl.hd ha hn htk hm,J,fun z => nomatch z⟩
theorem xA:yr X (.builtin "isinstance") (fun xs H Q => ∃ x c t b,xs = [x,c] /\ jj c = true /\ TyX X.K H x t /\ kitOne X.K t (clsV c) = some b /\ Q (.bl b) H) := by
 intro pins s σ H xs us Q I r h
 obtain ⟨x,c,t,b,rfl,hc,ty,e,q⟩ := h
 obtain ⟨u,v,rfl,r1,r2⟩ := vals2 r
 rw [Yu hc r2]
 obtain ⟨J,Z,hJ,hx⟩ := Xy I r1 ty
 exact kia_one Z I.kIn hJ e hx fun tk => ⟨.bl b,H,I.tok tk,rfl,q⟩
theorem WQ:yr X (.builtin "isinstance") (fun xs H Q => ∃ x p cs t b,xs = [x,.ref p] /\ SqT X.K H p cs /\ cs.all jj = true /\ TyX X.K H x t /\ kitAny X.K t (cs.map clsV) = some b /\ Q (.bl b) H) := by
 intro pins s σ H xs us Q I r h
 obtain ⟨x,p,cs,t,b,rfl,hp,hc,ty,e,q⟩ := h
 obtain ⟨u,v,rfl,r1,r2⟩ := vals2 r
 cases (show v = Value.ref p from r2)
 obtain ⟨J,Z,hJ,hx⟩ := Xy I r1 ty
 obtain ⟨its,r',pl,hz⟩ := I.tuple hp
 rw [<- Yv hc r'] at e
 obtain ⟨⟨oc,od,dt,sl⟩,h1,h2,n,h3⟩ := (show s.heap.IsTuple p its.toArray from pl)
 have h2:oc = .type "tuple" := h2
 have h3:dt = .seq its.toArray n := h3
 subst h2 h3
 exact kia_tup Z I.kIn hJ h1 e hx fun tk => ⟨.bl b,H,I.tok tk,rfl,q⟩
end
end _L2
namespace _L2
open PySem PySem.Spec PyProof.Rows PySem.W
theorem ZO {K:Frag} {h base:Heap} {c P:Addr} {o:Obj} (C:CodeHd h c P) (X:K.In h) (Y:K.In base) (l:K.lookup c = some o):CodeHd base c P := by
 obtain ⟨o',vs,file,tf,flags,tg,inF,text,tt,e,r⟩ := C
 have e' := X _ _ l
 rw [e] at e'
 obtain rfl := Option.some.inj e'
 exact ⟨_,vs,file,tf,flags,tg,inF,text,tt,Y _ _ l,r⟩
theorem Fun.okC {P:Program} {w:World} {K:PySem.W.Frag} {mg:Str -> Option Value} {base:Heap} {x qual:Str} {st:Stmt} {f:Addr} {fd:FuncData} {N ps:List Str} {k:Nat} {sp:Sp} (F:Fun K x qual st f fd) (S:zC N ps (zl st)) (len:∀ vs H Q E,sp vs H Q E -> vs.length = ps.length)
   (hbody:∀ (A:Around) (outer:List Env) (s:Shared) (H:Hp) (vs:List V) (Q:VK) (E:XK),Room k (A.deeper (envOfC qual (zl st) s.heap.objs.size f fd.code)) -> sp vs H Q E ->
     ∃ t,PSs (cxOf CX0 P w K mg base N qual (zl st) f fd.code A outer s H E).nox (zD st) t /\ t { nx := fun _ H' => Q .non H',rt := Q } (start N vs) H):FnOk P w K mg base CX0 (k + 1) f fd ps sp := by
 obtain ⟨oc,od,kV,doc,pm,an,cdv,ct,osl,rfl,lk,hcd⟩ := F.ex
 refine Z8 lk hcd S len fun A outer s H vs Q E hr hsp => ?_
 obtain ⟨t,h,q⟩ := hbody A outer s H vs Q E hr hsp
 exact ⟨t,h.nox,q⟩
noncomputable def zaA (K:Frag) (P:Addr) (qual:Str) (params:Arguments) (body:Expr) (scope:Scope) (lpos:Pos) (tl:TE):TE := fun σ H Q => tl σ H fun x H1 => tLam P qual params body scope lpos σ H1 fun fv H2 =>
 ∃ (l f c:Addr) (xs:List V) (kz:List (Int × Int)) (B:Int),x = .ref l /\ fv = .ref f /\ H2 f = some (.ext (FnIs f c qual params body scope)) /\ H2 c = some (.ext (CdIs c qual)) /\ SqL K H2 l xs /\ 0 < xs.length /\ xs.length < 64 /\ kz.length = xs.length /\ (∀ z ∈ kz,0 <= z.2 /\ z.2 < B) /\
   (∀ (i:Nat) (x:V) (z:Int × Int),xs[i]? = some x -> kz[i]? = some z -> ∃ p ys,x = .ref p /\ H2 p = some (.tup ys) /\ atI ys 1 = some (.int z.1) /\ atI ys 0 = some (.int z.2)) /\
   ∀ (D:Addr) (p:Array Nat) (H':Hp),Same H2 H' -> H' D = none -> _Srt.Ord xs.length p -> _Srt.Up (yv B kz) p xs.length -> Q (.ref D) (upd H' D (.lst (p.toList.map fun i => xs.getD i .non)))
theorem QT {X:Cx} {l:Expr} {tl:TE} {P:Addr} {qual:Str} {params:Arguments} {body:Expr} {scope:Scope} {lpos kpos p pos:Pos} (hg:Gl X "sorted") (hm:X.mg "sorted" = none) (hl:PE X l tl) (hlam:PE X (.Lambda params body scope lpos) (tLam P qual params body scope lpos))
   (hr:Room 3 X.A) (S:zC ["box"] ["box"] scope) (hb:∀ (pm ctv:Value) (c:Addr) (u:Value),bindArgs (kla_fn "<lambda>" qual params body scope [] pm (.ref c) ctv) ⟨[u],[]⟩ = pure ((["box"]:List Str).zip [u]))
   (hbody:∀ (f c:Addr) (A:Around) (outer:List Env) (s:Shared) (H:Hp),PE (cxOf CX0 X.prog X.w X.K X.mg X.base ["box"] qual scope f (.ref c) A outer s H E0).nox body (tTup (zB (tOp (rIxT X.K) (tVar 0) (tC (.int 1))) (zB (tOp (rIxT X.K) (tVar 0) (tC (.int 0))) tNil))))
   (hs:starEach [l] X.env = [(false,eval l X.env)] := by rfl) :
   PE X (.Call (.Name "sorted" p) [l] [⟨some "key",.Lambda params body scope lpos,kpos⟩] pos) (zaA X.K P qual params body scope lpos tl) := by
 intro pins s σ H Q I h
 refine wpAny_Call_Name_kw (xg I hg hm boot_sorted ?_ (by decide) (by decide))
 refine PyProof.Rows.callWith_kw (thn ((za hl zb hs) pos pins s σ H (fun vs H1 => match vs with
   | [x] => tLam P qual params body scope lpos σ H1 fun fv H2 => ∃ (l f c:Addr) (xs:List V) (kz:List (Int × Int)) (B:Int),x = .ref l /\ fv = .ref f /\ H2 f = some (.ext (FnIs f c qual params body scope)) /\ H2 c = some (.ext (CdIs c qual)) /\ SqL X.K H2 l xs /\ 0 < xs.length /\ xs.length < 64 /\ kz.length = xs.length /\ (∀ z ∈ kz,0 <= z.2 /\ z.2 < B) /\
     (∀ (i:Nat) (x:V) (z:Int × Int),xs[i]? = some x -> kz[i]? = some z -> ∃ p ys,x = .ref p /\ H2 p = some (.tup ys) /\ atI ys 1 = some (.int z.1) /\ atI ys 0 = some (.int z.2)) /\
     ∀ (D:Addr) (p:Array Nat) (H':Hp),Same H2 H' -> H' D = none -> _Srt.Ord xs.length p -> _Srt.Up (yv B kz) p xs.length -> Q (.ref D) (upd H' D (.lst (p.toList.map fun i => xs.getD i .non)))
   | _ => False) I h) fun us s1 ⟨vs,H1,I1,r1,q1⟩ => ?_) (by rw [hs]; rfl) (by rw [hs]; rfl) rfl rfl
 match vs,q1 with
 | [x],q1 =>
 obtain ⟨u,rfl,ru⟩ := vals1 r1
 refine thn ((Za (nm := some "key") hlam Yd) pos pins s1 σ H1 (fun ws H2 => match ws with
   | [fv] => ∃ (l f c:Addr) (xs:List V) (kz:List (Int × Int)) (B:Int),x = .ref l /\ fv = .ref f /\ H2 f = some (.ext (FnIs f c qual params body scope)) /\ H2 c = some (.ext (CdIs c qual)) /\ SqL X.K H2 l xs /\ 0 < xs.length /\ xs.length < 64 /\ kz.length = xs.length /\ (∀ z ∈ kz,0 <= z.2 /\ z.2 < B) /\
     (∀ (i:Nat) (x:V) (z:Int × Int),xs[i]? = some x -> kz[i]? = some z -> ∃ p ys,x = .ref p /\ H2 p = some (.tup ys) /\ atI ys 1 = some (.int z.1) /\ atI ys 0 = some (.int z.2)) /\
     ∀ (D:Addr) (p:Array Nat) (H':Hp),Same H2 H' -> H' D = none -> _Srt.Ord xs.length p -> _Srt.Up (yv B kz) p xs.length -> Q (.ref D) (upd H' D (.lst (p.toList.map fun i => xs.getD i .non)))
   | _ => False) I1 q1) fun us2 s2 ⟨ws,H2,I2,r2,q2⟩ => ?_
 match ws,q2 with
 | [fv],q2 =>
 obtain ⟨u2,rfl,ru2⟩ := vals1 r2
 obtain ⟨la,f,c,xs,kz,B,rfl,rfl,hf,hc,hL,h1,h64,hkz,hB,items,q⟩ := q2
 cases (show u = Value.ref la from ru)
 cases (show u2 = Value.ref f from ru2)
 show wpAny _ _ (call (.builtin "sorted") [.ref la] [(Str.ofString "key",.ref f)]) _ _ _
 refine wz I2 hL h1 h64 hkz hB (fun H' => Same H2 H') (Same.refl _) (fun pins' i x v z s' H' hx hz rx I' g' => ?_) fun D p H' s' g' _ hD po pu I' => ⟨.ref D,_,I',rfl,q D p H' g' hD po pu⟩
 obtain ⟨pa,ys,rfl,hp,a1,a0⟩ := items i x z hx hz
 cases (show v = Value.ref pa from rx)
 refine wpAny_mono (Yk (Q := fun v H'' => ∃ p',v = .ref p' /\ Same H' H'' /\ H'' p' = some (.tup [.int z.1,.int z.2])) I' (A := X.A.in1.in1) I'.ok.frames hr.in1.in1 S (g' _ _ hf) (g' _ _ hc) (fun pm ctv => hb pm ctv c _) (show Vals [V.ref pa] [Value.ref pa] from .cons rfl .nil) rfl ⟨_,hbody f c _ _ s' H',?_⟩) (fun k s'' ⟨v',H'',I'',r'',p',e,S',h'⟩ => ?_) fun _ _ z => z
 · exact ⟨_,rfl,_,_,_,_,rfl,rfl,SqT.of (g' _ _ hp),a1,_,rfl,_,_,_,_,rfl,rfl,SqT.of (g' _ _ hp),a0,by show 2 <= sizeLine; decide,fun p' n' => ⟨p',rfl,fun b o e => by rw [zq (zy e n')]; exact e,zd⟩⟩
 · subst e
   cases (show k = Value.ref p' from r'')
   exact ⟨p',H'',rfl,I'',g'.trans S',S',h'⟩
end _L2
namespace _K4
open PySem _L2 _Til
noncomputable def TL (a b:Bx):Prop := a.t < b.t \/ (a.t = b.t /\ a.l <= b.l)
noncomputable def picked {α:Type} (d:α) (p:Array Nat) (xs:List α):List α := p.toList.map fun i => xs.getD i d
theorem XT {α:Type} (d:α) (xs:List α):(List.range xs.length).map (fun i => xs.getD i d) = xs := by
 refine List.ext_getElem (by simp) fun i h1 h2 => ?_
 rw [List.getElem_map,List.getElem_range,_L2.getD_at h2]
theorem xT {α:Type} {d:α} {p:Array Nat} {xs:List α} (o:_Srt.Ord xs.length p):(picked d p xs).Perm xs := by
 have h:p.toList.Perm (List.range xs.length) := by
   have := Array.perm_iff_toList_perm.mp o.pm
   simpa using this
 have h2 := h.map fun i => xs.getD i d
 rw [XT] at h2
 exact h2
theorem qk {α:Type} {d:α} {p:Array Nat} {xs:List α} (o:_Srt.Ord xs.length p):(picked d p xs).length = xs.length := (xT o).length_eq
noncomputable def bx0:Bx := ⟨0,0,0,0⟩
theorem jT {H:Hp} {us:List V} {bs:List Bx} (h:zm H us bs):∀ (ls:List Nat),(∀ i ∈ ls,i < bs.length) -> zm H (ls.map fun i => us.getD i .non) (ls.map fun i => bs.getD i bx0)
 | [],_ => .nil
 | i :: ls,hl => by
   have hi := hl i List.mem_cons_self
   obtain ⟨v,e,r⟩ := h.get (List.getElem?_eq_getElem hi)
   refine .cons ?_ (jT h ls fun j hj => hl j (List.mem_cons_of_mem _ hj))
   have e1:us.getD i .non = v := by rw [List.getD_eq_getElem?_getD,e]; rfl
   show yR H (us.getD i .non) (bs.getD i bx0)
   rw [e1,_L2.getD_at hi]
   exact r
theorem wF {H:Hp} {us:List V} {bs:List Bx} {p:Array Nat} (h:zm H us bs) (o:_Srt.Ord bs.length p):zm H (picked .non p us) (picked bx0 p bs) :=
 jT h _ fun i hi => by
   have m:i ∈ p := by simpa using hi
   have m2:i ∈ (List.toArray (List.range bs.length)) := (Array.Perm.mem_iff o.pm).mp m
   simpa using m2
theorem x9 {bs:List Bx} {p:Array Nat} {B:Int} (o:_Srt.Ord bs.length p) (hB:∀ b ∈ bs,0 <= b.l /\ b.l < B) (u:_Srt.Up (yv B (bs.map fun b => (b.t,b.l))) p bs.length):(picked bx0 p bs).Pairwise TL := by
 rw [List.pairwise_iff_getElem]
 intro i j hi hj hij
 have lp:(picked bx0 p bs).length = bs.length := qk o
 have lz:p.size = bs.length := o.sz
 have key:∀ k,k < bs.length -> ∃ b,b ∈ bs /\ (∀ h,(picked bx0 p bs)[k]'h = b) /\ _Srt.kv (yv B (bs.map fun b => (b.t,b.l))) p k = b.t * B + b.l := by
   intro k hk
   have hk':p.getD k 0 < bs.length := o.lt hk
   refine ⟨bs[p.getD k 0],List.getElem_mem _,fun h => ?_,?_⟩
   · have e:p.toList[k]'(by rw [Array.length_toList,lz]; exact hk) = p.getD k 0 := by simp [Array.getD,lz,hk]
     have:∀ h',(List.map (fun i => bs.getD i bx0) p.toList)[k]'h' = bs[p.getD k 0] := fun h' => by rw [List.getElem_map,e,_L2.getD_at hk']
     exact this h
   · unfold _Srt.kv yv
     rw [List.getD_eq_getElem?_getD,List.getElem?_map,List.getElem?_eq_getElem hk']
     rfl
 obtain ⟨a,ma,ea,ka⟩ := key i (by omega)
 obtain ⟨b,mb,eb,kb⟩ := key j (by omega)
 rw [ea,eb]
 have le := u.le (i := i) (j := j) (by omega) (by omega)
 rw [ka,kb] at le
 have h1 := hB a ma
 have h2 := hB b mb
 have z := lex_lt (a := b.t) (c := a.t) h2 h1
 have nz:¬ (b.t < a.t \/ (b.t = a.t /\ b.l < a.l)) := fun w => by have := z.mpr w; omega
 unfold TL
 omega
noncomputable def Z9 (T:Addr) (H H':Hp):Prop := ∀ b o,b ≠ T -> H b = some o -> H' b = some o
theorem ju {T:Addr} {H H':Hp} {ps:Array Value} (hT:H T = some (.tbl ps)) (S:Z9 T H H'):∀ {vs:List V} {bs:List Bx},zm H vs bs -> zm H' vs bs
 | _,_,.nil => .nil
 | _,_,.cons ⟨p,e,z⟩ t => .cons ⟨p,e,S _ _ (y9 z hT (by intro z; cases z)) z⟩ (ju hT S t)
noncomputable def Yw (T:Addr):Sp := fun vs H Q _ => ∃ (l xa ya:Addr) (us:List V) (bs:List Bx) (xs ys:List Int) (n:Nat),vs = [.ref l,.ref xa,.ref ya] /\ H l = some (.lst us) /\ zm H us bs /\ z0 bs n n /\ 0 < n /\ bs.length <= 24 /\
 H xa = some (.lst (xs.map V.int)) /\ H ya = some (.lst (ys.map V.int)) /\ xw xs /\ xw ys /\ xs.length = n + 1 /\ ys.length = n + 1 /\ xs.getD 0 0 = 0 /\ ys.getD 0 0 = 0 /\ H T = some (.tbl #[]) /\
 ∀ (D:Addr) (us':List V) (cs:List Bx) (H':Hp),Z9 T H H' -> H' D = some (.lst us') -> zm H' us' cs -> cs.Perm (bs.map (lay xs ys)) -> cs.Pairwise TL -> Q (.ref D) H'
section
variable {P:Program} {w:World} {K:PySem.W.Frag} {mg:Str -> Option Value} {base:Heap}
theorem w9:zC ["boxes","xs","ys","found","left","top","right","below"] ["boxes","xs","ys"] (zl jb) := ⟨rfl,rfl,rfl,by decide +kernel,rfl,by decide +kernel,by decide +kernel⟩
theorem Jy {f c T:Addr} {fd:FuncData} (F:Fun K "_law_laid" "_law_laid" jb f fd) (hcode:fd.code = .ref c) (C:PySem.W.CodeHd base c T) (hBM:BMain mg base) (ts:mg "sorted" = none):FnOk P w K mg base CX0 4 f fd ["boxes","xs","ys"] (Yw T) := by
 refine F.okC w9 (fun vs H Q E h => ?_) (fun A outer s H vs Q E hr h => ?_)
 · obtain ⟨l,xa,ya,us,bs,xs,ys,n,rfl,_⟩ := h
   rfl
 · obtain ⟨l,xa,ya,us,bs,xs,ys,n,rfl,hl,hB,Ti,hn,hlen,hx,hy,Rx,Ry,lx,ly,x0,y0,hT,q⟩ := h
   refine ⟨_,(zg (zt (i := 3) w9.nd rfl (Or.inl rfl) (zX zb))
     (zg (yF PassesOwn.never rfl (yo (pv 0)) (xI rfl (zE (zp (i := 4) w9.nd rfl (Or.inl rfl)) (zE (zp (i := 5) w9.nd rfl (Or.inl rfl)) (zE (zp (i := 6) w9.nd rfl (Or.inl rfl)) (zE (zp (i := 7) w9.nd rfl (Or.inl rfl)) xm)))))
       (zh (xl (xc PySem.F.plainAttrs_list PySem.F.slot_list_append PySem.F.type_list_append xD (pv 3) (za (zS (za (zn zv (pv 1) (pv 4) (fun _ _ => rfl)) (za (zn zv (pv 2) (pv 5) (fun _ _ => rfl)) (za (zn zv (pv 1) (pv 6) (fun _ _ => rfl)) (za (zn zv (pv 2) (pv 7) (fun _ _ => rfl)) zb))))) zb)))))
     (zh (zw (QT rfl ts (pv 3) (zas (c := c) (P := T) hcode C hBM rfl rfl) hr ⟨rfl,rfl,rfl,by decide +kernel,rfl,by decide +kernel,by decide +kernel⟩ (fun _ _ _ _ => rfl)
       (fun _ _ _ _ _ _ => zS (za (zn zK (pv 0) ze (fun _ _ => rfl)) (za (zn zK (pv 0) ze (fun _ _ => rfl)) zb)))))))),?_⟩
   refine xG ⟨by show 0 <= sizeLine; decide,fun lf nlf => ?_⟩
   have Sf := zf (o := .lst []) nlf
   refine ⟨_,rfl,l,rfl,⟨_,SqL.of (Sf _ _ hl)⟩,?_⟩
   refine wx (K := K) (a := l) (xs := us) (fun i σ H2 => ∃ (vs:List V) (o4 o5 o6 o7:Option V),σ = [some (.ref l),some (.ref xa),some (.ref ya),some (.ref lf),o4,o5,o6,o7] /\ Same H H2 /\ H2 lf = some (.lst vs) /\ zm H2 vs ((bs.take i).map (lay xs ys)))
     ⟨[],none,none,none,none,rfl,Sf,zd,.nil⟩ (fun i σ H2 _ h9 => by obtain ⟨_,_,_,_,_,_,s2,_⟩ := h9; exact (SqL.of (s2 _ _ hl))) ?_ ?_
   · rintro i y σ H2 hi ⟨vs,o4,o5,o6,o7,rfl,S2,hf,hV⟩
     have hil:i < bs.length := by rw [<- hB.len]; exact (List.getElem?_eq_some_iff.mp hi).1
     have eb:bs[i]? = some bs[i] := List.getElem?_eq_getElem hil
     generalize hbb:bs[i] = b at eb
     obtain ⟨v,hv,p,rfl,hp⟩ := hB.get eb
     rw [hi] at hv
     cases hv
     obtain ⟨b1,b2,b3,b4,b5,b6⟩ := Ti.wf b (List.mem_of_getElem? eb)
     refine ⟨p,_,rfl,SqT.of (S2 _ _ hp),rfl,_,_,rfl,_,_,rfl,_,_,rfl,_,_,rfl,rfl,?_⟩
     refine ⟨_,rfl,.inl ⟨rfl,_,SqL.of hf⟩,?_⟩
     refine zN (v1 := .int (lay xs ys b).l) (v2 := .int (lay xs ys b).t) (v3 := .int (lay xs ys b).r) (v4 := .int (lay xs ys b).b) (xE (zc rfl) (zc rfl) (SqL.of (S2 _ _ hx)) (w6 b1 (by omega))) (xE (zc rfl) (zc rfl) (SqL.of (S2 _ _ hy)) (w6 b4 (by omega)))
       (xE (zc rfl) (zc rfl) (SqL.of (S2 _ _ hx)) (w6 (by omega) (by omega))) (xE (zc rfl) (zc rfl) (SqL.of (S2 _ _ hy)) (w6 (by omega) (by omega))) fun p9 n9 => ?_
     have S9 := zf (o := .tup [.int (lay xs ys b).l,.int (lay xs ys b).t,.int (lay xs ys b).r,.int (lay xs ys b).b]) n9
     have hf9 := S9 _ _ hf
     have lv := hV.len
     rw [List.length_map,List.length_take] at lv
     refine ⟨lf,vs,_,rfl,rfl,hf9,Nat.lt_of_le_of_lt (show vs.length <= 1000 by omega) (by decide),?_⟩
     refine ⟨vs ++ [.ref p9],_,_,_,_,rfl,yH (S2.trans S9) nlf,zd,?_⟩
     have et:bs.take (i + 1) = bs.take i ++ [b] := by rw [<- hbb]; exact (List.take_append_getElem hil).symm
     rw [et,List.map_append]
     exact zm.append (zm.updL hf9 (hV.same S9)) (.cons ⟨p9,rfl,by rw [zq (y9 hf9 zd (by intro z; cases z)).symm]; exact zd⟩ .nil)
   · rintro σ H2 ⟨vs,o4,o5,o6,o7,rfl,S2,hf,hV⟩
     rw [hB.len,List.take_length] at hV
     have lv := hV.len
     rw [List.length_map] at lv
     obtain ⟨cs,hcs⟩ : ∃ cs,cs = bs.map (lay xs ys) := ⟨_,rfl⟩
     rw [<- hcs] at hV
     have lc:cs.length = bs.length := by rw [hcs,List.length_map]
     have Tc:z0 cs (xs.getD n 0) (ys.getD n 0) := by rw [hcs]; exact jR Ti Rx Ry lx ly x0 y0
     have hpos := ZM Ti (show (0:Int) < n by omega) (by omega)
     refine ⟨_,rfl,#[],S2 _ _ hT,trivial,rfl,fun fa ca more nf nc hne => ?_⟩
     have fT:fa ≠ T := zy (S2 _ _ hT) nf |>.symm
     have cT:ca ≠ T := zy (S2 _ _ hT) nc |>.symm
     have ST:∀ {o1 o2:HO},Z9 T H2 (upd (upd (upd H2 T (.tbl (#[] ++ more))) ca o1) fa o2) := fun {o1 o2} b o hb e => by
       rw [zq (zy e nf),zq (zy e nc),zq hb]
       exact e
     have lfT:lf ≠ T := y9 hf (S2 _ _ hT) (by intro z; cases z)
     have boxT:∀ {p:Addr} {xs:List V},H2 p = some (.tup xs) -> p ≠ T := fun e => y9 e (S2 _ _ hT) (by intro z; cases z)
     refine ⟨lf,fa,ca,vs,cs.map fun b => (b.t,b.l),xs.getD n 0,rfl,rfl,zd,by rw [zq hne.symm,zd],SqL.of (ST _ _ lfT hf),by omega,by omega,by rw [List.length_map]; omega,fun z hz => ?_,fun i x z hx hz => ?_,fun D p H' S' hD po pu => ?_⟩
     · obtain ⟨b,hb,rfl⟩ := List.mem_map.mp hz
       have o := Tc.wf b hb
       exact ⟨o.h0,by have := o.h1; have := o.h2; simp only; omega⟩
     · rw [List.getElem?_map] at hz
       cases e:cs[i]? with
       | none => rw [e] at hz; cases hz
       | some b =>
         rw [e] at hz
         cases hz
         obtain ⟨v,hv,p,rfl,hp⟩ := hV.get e
         rw [hx] at hv
         cases hv
         exact ⟨p,bxV b,rfl,ST _ _ (boxT hp) hp,rfl,rfl⟩
     · have lvc:vs.length = cs.length := by omega
       rw [lvc] at po pu
       have SD:Z9 T H2 (upd H' D (.lst (p.toList.map fun i => vs.getD i .non))) := fun b o hb e => by
         have e' := S' _ _ (ST b o hb e)
         rw [zq (zy e' hD)]
         exact e'
       have hV':zm (upd H' D (.lst (p.toList.map fun i => vs.getD i .non))) vs cs := by
         exact ju (S2 _ _ hT) SD hV
       refine q D _ (picked bx0 p cs) _ (fun b o hb e => SD b o hb (S2 _ _ e)) zd (wF hV' po) ?_ ?_
       · rw [<- hcs]; exact xT po
       · exact x9 po (fun b hb => by have o := Tc.wf b hb; exact ⟨o.h0,by have := o.h1; have := o.h2; omega⟩) pu
end
end _K4
namespace _L2
open PySem
noncomputable def GI (mg:Str -> Option Value) (x:Str) (n:Int):Prop := ∃ t,mg x = some (.int n t)
theorem yi {X:Cx} {x:Str} {n:Int} {pos:Pos} (hg:Gl X x) (h:GI X.mg x n) (hd:(x == ("__debug__" : Str)) = false := by decide):PE X (.Name x pos) (tC (.int n)) := by
 obtain ⟨t,h⟩ := h
 exact j9 hg h ⟨t,rfl⟩ hd
end _L2
namespace _K4
open PySem _L2 _Til
noncomputable def xY (H:Hp) (pg:Addr) (wd hg:Int) (bs:List Bx):Prop := ∃ tb us,H pg = some (.tup [.int wd,.int hg,.ref tb]) /\ H tb = some (.tup us) /\ zm H us bs /\ bs.length <= 24
theorem xY.same {H H':Hp} (S:Same H H') {pg:Addr} {wd hg:Int} {bs:List Bx} (h:xY H pg wd hg bs):xY H' pg wd hg bs :=
 let ⟨tb,us,a,b,c,d⟩ := h; ⟨tb,us,S _ _ a,S _ _ b,c.same S,d⟩
end _K4
namespace _L2
open PySem PySem.Spec PyProof.Rows
noncomputable def ItE (K:PySem.W.Frag) (a:Addr):It :=
 ⟨fun i H => ∃ xs x,SqL K H a xs /\ xs[i]? = some x,fun i H x H' => ∃ p y,H p = none /\ x = .ref p /\ H' = upd H p (.tup [.int i,y]) /\ ∀ xs,SqL K H a xs -> xs[i]? = some y,fun i H => ∃ xs,SqL K H a xs /\ xs.length <= i⟩
theorem XU {P:Program} {w:World} {K:PySem.W.Frag} {elts:List Expr} {kx:Nat} {px:Pos} (a e it:Addr) (hei:e ≠ it) :
   Turn P w K (.Tuple elts kx px) (ItE K a) [e,it] e (fun i h => (∃ old,IsEnum h e it (i:Nat) old) /\ h.IsListIter it a i) where
 mem := by simp
 obj := fun i h st b hb => by
   obtain ⟨⟨old,he⟩,⟨o,ho,c,d⟩⟩ := st
   rcases List.mem_cons.mp hb with rfl | hb
   · exact ⟨_,he,fun v z => by
       have z':Data.fields _ = Data.cell v := z
       cases z'⟩
   · obtain rfl := List.mem_singleton.mp hb
     exact ⟨o,ho,fun v z => by rw [d] at z; cases z⟩
 keep := fun i h h' st k => ⟨let ⟨old,he⟩ := st.1; ⟨old,k e (by simp) _ he⟩,st.2.at fun o q => k it (by simp) o q⟩
 item := by
   intro X hP hw hK hc i pins s σ H E I hf st hg
   subst hP hw hK
   obtain ⟨⟨old,he⟩,hit⟩ := st
   obtain ⟨xs,x,hq,hx⟩ := hg
   obtain ⟨its,rv,tp,hz⟩ := I.list hq
   obtain ⟨u,hu,ru⟩ := rv.get hx
   have hil:i < xs.length := (List.getElem?_eq_some_iff.mp hx).1
   have tp':s.heap.IsList a its.toArray := tp.isList
   have nai:a ≠ it := fun z => by
     obtain ⟨o,g1,g2,_⟩ := tp'
     obtain ⟨o',g1',g2',_⟩ := hit
     rw [z,g1'] at g1
     cases g1
     rw [g2'] at g2
     exact absurd g2 (by decide)
   have nae:a ≠ e := fun z => by
     obtain ⟨o,g1,g2,_⟩ := tp'
     rw [z,he] at g1
     cases g1
     have g3:Value.type "enumerate" = Value.type "list" := g2
     exact absurd g3 (by decide)
   have D := Draws.list (prog := X.prog) (w := X.w) (A := X.A.in1) (by exact I.ok.hd hc) it a nai its.toArray
   refine wpAny_pyNext_enum_itemD D he ⟨hit,tp'⟩ (by rw [List.size_toArray,<- rv.length]; exact hil) hei (by simp [hei,nae.symm]) fun y h' tk hP ho hs' hT hsz hk => ?_
   have ey:y = u := by
     rw [List.getElem?_toArray,hu] at hP
     exact (Option.some.inj hP).symm
   subst ey
   refine ⟨_,rfl,wpAny_letOwnedTupleGo_enum ho fun h2 he2 hs2 => ?_⟩
   have ne1:s.heap.objs.size ≠ e := Nat.ne_of_gt (Heap.lt_size he)
   have k2:∀ b o,b ≠ e -> b ≠ it -> s.heap.get? b = some o -> h2.get? b = some o := fun b o n1 n2 q => (hs2.2 b n1).trans (hk b o n1 n2 q)
   have I1:Inv X pins σ H { s with heap := h2,toks := tk + 1 } := I.turned2 k2 (hf e (by simp)) (hf it (by simp))
   have hn:H s.heap.objs.size = none := I.hok.fresh (Nat.le_refl _)
   have FP := I.fpOk (b := s.heap.objs.size) (Nat.le_refl _) hn
   have hT2:h2.get? s.heap.objs.size = some { cls := .type "tuple",data := .seq #[.int i tk,y] } := (hs2.2 _ ne1).trans hT
   have I2 := I1.track (p := s.heap.objs.size) (o := .tup [.int i,x]) hn (Heap.get?_none_of_le I.sz) FP.2.1 FP.2.2.2.2.1 FP.2.2.2.2.2
     ⟨by show 2 <= sizeLine; decide,[.int i tk,y],.cons ⟨tk,rfl⟩ (.cons ru .nil),⟨_,hT2,rfl,_,rfl⟩⟩
   refine ⟨.ref s.heap.objs.size,_,I2,rfl,⟨_,x,hn,rfl,rfl,fun ys hy => ?_⟩,⟨⟨y,by simpa using he2⟩,hs'.1.at fun o q => (hs2.2 it hei.symm).trans q⟩,fun b hb => ?_⟩
   · rw [I.list_inj hy hq]; exact hx
   · have hb2:b ≠ s.heap.objs.size := by
       rcases List.mem_cons.mp hb with rfl | hb
       · exact ne1.symm
       · obtain rfl := List.mem_singleton.mp hb
         obtain ⟨o,g,_⟩ := hit
         exact Nat.ne_of_lt (Heap.lt_size g)
     rw [zq hb2]
     exact (hf b hb).1
 done := by
   intro X hP hw hK hc i pins s σ H E I hf st hg
   subst hP hw hK
   obtain ⟨⟨old,he⟩,hit⟩ := st
   obtain ⟨xs,hq,hx⟩ := hg
   obtain ⟨its,rv,tp,hz⟩ := I.list hq
   have tp':s.heap.IsList a its.toArray := tp.isList
   have nai:a ≠ it := fun z => by
     obtain ⟨o,g1,g2,_⟩ := tp'
     obtain ⟨o',g1',g2',_⟩ := hit
     rw [z,g1'] at g1
     cases g1
     rw [g2'] at g2
     exact absurd g2 (by decide)
   have hl := rv.length
   have hT:s.TypeIs (.ref e) "enumerate" := ⟨_,he,rfl⟩
   obtain ⟨f0,f1,f2,f3,f4,f5⟩ := hf it (by simp)
   unfold pyNext
   refine wpAny_bind (wpAny_attempt (wpAny_callSpecial?_slot (name := Str.ofString "__next__") hT F.slot_enumerate_next ?_))
   refine wpAny_call_entry F.slot_enumerate_next hT F.entry_enumerate_next ?_ (F.args_enumerate_next_1 _)
   show wpAny _ _ (field (.ref e) 2 >>= _) _ _ _
   refine wpAny_bind (wpAny_field he rfl (x := .ref it) rfl ?_)
   refine wpAny_bind (wpAny_nextOf_list_end (by exact I.ok.hd hc) hit tp' (by simp; omega) fun h' x ext hex => ?_)
   obtain ⟨o,g1,g2⟩ := hex
   refine wpAny_bind (wpAny_isInstance (T := "StopIteration") (b := true) ⟨o,g1,g2⟩ isSubtype_stop ?_)
   exact wpAny_pure ⟨rfl,I.turned (t' := s.toks) (fun b ob nb q => ext b ob nb q) f0 f1 f3 f4 f5⟩
 self := fun _ _ _ _ _ st h => let ⟨⟨_,he⟩,_⟩ := st; wpAny_pyIter_enum he h
noncomputable def iEnL (K:PySem.W.Frag) (ta:TA):TI := fun σ H R => ta σ H fun vs H1 => ∃ a,vs = [.ref a] /\ (∃ xs,SqL K H1 a xs) /\ R (ItE K a) H1
theorem Yx {X:Cx} {l:Expr} {ta:TA} {elts:List Expr} {kx:Nat} {px p pos:Pos} (hg:Gl X "enumerate") (hm:X.mg "enumerate" = none) (ha:PA X [l] ta) (hs:starEach [l] X.env = [(false,eval l X.env)] := by rfl) :
   PI X (.Tuple elts kx px) (.Call (.Name "enumerate" p) [l] [] pos) (iEnL X.K ta) := by
 intro pins s σ H R I h
 refine Call_ (xg I hg hm boot_enumerate (PyProof.Rows.callWith_type1 (thn (ha pos pins s σ H _ I h) fun us s1 ⟨vs,H1,I1,r1,q1⟩ => ?_) hs rfl))
 obtain ⟨a,e,⟨xs,hq⟩,q⟩ := q1
 subst e
 cases r1 with
 | cons r rr =>
   cases rr
   cases r
   obtain ⟨its,rv,tp,hz⟩ := I1.list hq
   refine call_enumerate_list tp.isList fun h' he hit hsz hk => ?_
   refine wpAny_pyIter_enum he ?_
   refine ⟨s1.heap.objs.size + 1,[s1.heap.objs.size + 1,s1.heap.objs.size],_,_,H1,rfl,I1.kept (t' := s1.toks) hk,XU a _ _ (Nat.succ_ne_self _),⟨⟨_,he⟩,hit⟩,fun b hb => ?_,q⟩
   rcases List.mem_cons.mp hb with rfl | hb
   · exact I1.fpOk (Nat.le_succ _) (I1.hok.fresh (Nat.le_succ _))
   · obtain rfl := List.mem_singleton.mp hb
     exact I1.fpOk (Nat.le_refl _) (I1.hok.fresh (Nat.le_refl _))
theorem WR {K:PySem.W.Frag} {a:Addr} {xs:List V} {g:TG} {tb:TS} {D:Ends} {σ:St} {H:Hp} (Pv:Nat -> St -> Hp -> Prop) (h0:Pv 0 σ H) (hl:∀ i σ H,i <= xs.length -> Pv i σ H -> SqL K H a xs)
   (hs:∀ i x σ H p,xs[i]? = some x -> Pv i σ H -> H p = none -> g (.ref p) σ (upd H p (.tup [.int i,x])) fun σ2 H2 => tb { D with nx := Pv (i + 1),ct := Pv (i + 1),bk := D.nx } σ2 H2) (hd:∀ σ H,Pv xs.length σ H -> D.nx σ H) :
   ∃ W:Nat -> Nat -> St -> Hp -> Prop,(∃ m,W 0 m σ H) /\ ∀ i m σ H,W i m σ H ->
     ((ItE K a).stop i H /\ D.nx σ H) \/ ((ItE K a).go i H /\ ∃ N:St -> Hp -> Prop,(∀ σ' H',N σ' H' -> ∃ m',m' < m /\ W (i + 1) m' σ' H') /\ ∀ x H',(ItE K a).yld i H x H' -> g x σ H' fun σ2 H2 => tb { D with nx := N,ct := N,bk := D.nx } σ2 H2) := by
 refine ⟨fun i m σ H => m = xs.length - i /\ i <= xs.length /\ Pv i σ H,⟨xs.length,by simp,Nat.zero_le _,h0⟩,?_⟩
 rintro i m σ H ⟨rfl,hi,p⟩
 have q := hl i σ H hi p
 by_cases hlt:i < xs.length
 · refine .inr ⟨⟨xs,xs[i],q,by simp [hlt]⟩,Pv (i + 1),fun σ' H' p' => ⟨xs.length - (i + 1),by omega,rfl,hlt,p'⟩,fun x H' y => ?_⟩
   obtain ⟨pp,v,hn,e1,e2,y⟩ := y
   subst e1 e2
   exact hs i v σ H pp (y xs q) p hn
 · have e:i = xs.length := by omega
   subst e
   exact .inl ⟨⟨xs,q,Nat.le_refl _⟩,hd σ H p⟩
section
variable {X:Cx}
theorem WS {pins:List (Addr × Obj)} {σ:St} {H:Hp} {s:Shared} {a:Addr} {its:List Value} (I:Inv X pins σ H s) (tp:s.heap.IsList a its.toArray) (hc:X.calm = true) {Q:Value -> Shared -> Prop}
   (q:∀ s2:Shared,s2 = { s with heap := s.heap.push { cls := .type "list_iterator",data := .fields #[.ref a,.int 0 0] } } -> Walks X.prog X.w X.A.in1 s.heap.objs.size [s.heap.objs.size,a] [s.heap.objs.size] its.toArray.size (fun i v => its.toArray[i]? = some v) (fun i h => h.IsListIter s.heap.objs.size a i /\ h.IsList a its.toArray) ->
     (s2.heap.IsListIter s.heap.objs.size a 0 /\ s2.heap.IsList a its.toArray) -> (∀ b ∈ [s.heap.objs.size,a],b < s2.heap.objs.size) -> Q (.ref s.heap.objs.size) s2):wpAny (model X.prog X.w) X.A.in1 (pyIter (.ref a)) Q X.xe s := by
 have hlt:a < s.heap.objs.size := by obtain ⟨_,e,_⟩ := tp; exact Heap.lt_size e
 refine wpAny_pyIter_list tp (q _ rfl (Walks.list (by exact I.ok.hd hc) _ _ (Nat.ne_of_lt hlt) _) ⟨⟨_,Heap.get?_push_size _ rfl,rfl,rfl⟩,?_⟩ fun b hb => ?_)
 · obtain ⟨o,e,r⟩ := tp
   exact ⟨o,Heap.get?_push_of_some _ e,r⟩
 · show b < (s.heap.push _).objs.size
   rw [Heap.size_push]
   rcases List.mem_cons.mp hb with rfl | hb
   · exact Nat.lt_succ_self _
   · rw [List.mem_singleton.mp hb]
     exact Nat.lt_succ_of_lt hlt
theorem wP (ns:List Int):∀ k,k <= ns.length -> preSum (fun i => ns.getD i 0) k = (ns.take k).sum
 | 0,_ => rfl
 | k + 1,h => by
   show preSum _ k + ns.getD k 0 = _
   rw [wP ns k (by omega),<- List.take_append_getElem (by omega:k < ns.length),List.sum_append,getD_at (by omega)]
   simp
theorem WT (hc:X.calm = true):yr X (.builtin "sum") (fun xs H Q => ∃ (a:Addr) (ns:List Int),xs = [.ref a] /\ SqL X.K H a (ns.map V.int) /\ (∀ z ∈ ns,-(2 ^ 63) <= z /\ z < 2 ^ 63) /\ (∀ k,k <= ns.length -> -(2 ^ 63) <= (ns.take k).sum /\ (ns.take k).sum < 2 ^ 63) /\ Q (.int ns.sum) H) := by
 intro pins s σ H xs us Q I r h
 obtain ⟨a,ns,rfl,hq,h1,h2,q⟩ := h
 obtain ⟨u,rfl,ru⟩ := vals1 r
 cases ru
 obtain ⟨its,rv,tp,hz⟩ := I.list hq
 have hl := rv.length
 rw [List.length_map] at hl
 refine call_sum_walk (WS I tp.isList hc fun s2 e W st hfp => ?_)
 subst e
 refine ⟨_,_,_,_,_,_,fun i => ns.getD i 0,rfl,W,st,hfp,xo rv,fun j hj => ?_,fun h' tk t' hk => ?_⟩
 · rw [List.size_toArray] at hj
   refine ⟨?_,?_⟩
   · show -(2 ^ 63) <= ns.getD j 0 /\ ns.getD j 0 < 2 ^ 63
     rw [getD_at (by omega)]
     exact h1 _ (List.getElem_mem _)
   · rw [wP ns (j + 1) (by omega)]
     exact h2 (j + 1) (by omega)
 · refine ⟨.int ns.sum,H,I.kept (t' := tk) fun b o e => hk b o (fun m => ?_) (Heap.get?_push_of_some _ e),⟨t',?_⟩,q⟩
   · have := Heap.lt_size e
     rw [List.mem_singleton.mp m] at this
     exact Nat.lt_irrefl _ this
   · rw [List.size_toArray,<- hl,wP ns _ (Nat.le_refl _),List.take_length]
end
end _L2
namespace _L2
open PySem PySem.Spec PyProof.Rows
theorem Jz {A B:Prop} (h:if false = true then A else B):B := by rwa [if_neg Bool.false_ne_true] at h
theorem JA {A B:Prop} (h:if true = true then A else B):A := by rwa [if_pos rfl] at h
noncomputable def z9 (X:Cx) (Nc:List Str) (scope:Scope) (cl:List (Str × Addr)) (s:Shared) (H:Hp) (C:Addr) (fp:List Addr):Cx :=
 { X with N := Nc,s₀ := s,H₀ := H,env := compEnvC scope cl C X.env,outer := X.stack,ex := fp,fn := fun _ => false,pn := [],xe := fun _ _ => False }
noncomputable def seen (ix:List (Option Nat)) (σ:St):St := ix.map fun o => match o with
 | some j => (σ[j]?).getD none
 | none => none
theorem XV {scope:Scope} {env:Env} (h:∀ x ∈ scope.names,x.2 = .free -> ∃ c,env.cells.lookup x.1 = some c) :
   ∃ cl,closureFor scope env = pure cl /\ (∀ x c,cl.lookup x = some c -> env.cells.lookup x = some c) /\ ∀ x ∈ scope.names,x.2 = .free -> ∃ c,cl.lookup x.1 = some c := by
 have go:∀ (ns:List (Str × NameKind)) (cs:List (Str × Addr)),(∀ x ∈ ns,x.2 = .free -> ∃ c,env.cells.lookup x.1 = some c) -> (∀ x c,cs.lookup x = some c -> env.cells.lookup x = some c) ->
     ∃ cl,(forIn ns cs fun (x:Str × NameKind) (r:List (Str × Addr)) => (if (x.2 == .free) = true then (do let c <- cellOf env x.1; pure (ForInStep.yield ((x.1,c) :: r))) else pure (ForInStep.yield r):Sem _)) = pure cl /\
       (∀ x c,cl.lookup x = some c -> env.cells.lookup x = some c) /\ (∀ x ∈ ns,x.2 = .free -> ∃ c,cl.lookup x.1 = some c) /\ ∀ x c,cs.lookup x = some c -> ∃ c',cl.lookup x = some c' := by
   intro ns
   induction ns with
   | nil => intro cs _ h2; exact ⟨cs,rfl,h2,fun x hx => (nomatch hx),fun x c e => ⟨c,e⟩⟩
   | cons p r ih =>
     obtain ⟨n,k⟩ := p
     intro cs h1 h2
     by_cases hk:k = .free
     · subst hk
       obtain ⟨c,hc⟩ := h1 (n,.free) List.mem_cons_self rfl
       have hcs:∀ x c',List.lookup x ((n,c) :: cs) = some c' -> env.cells.lookup x = some c' := fun x c' e => by
         rw [List.lookup_cons] at e
         cases hx:x == n with
         | true => rw [hx] at e; cases e; rw [eq_of_beq hx]; exact hc
         | false => rw [hx] at e; exact h2 x c' e
       obtain ⟨cl,e1,e2,e3,e4⟩ := ih ((n,c) :: cs) (fun x hx => h1 x (List.mem_cons_of_mem _ hx)) hcs
       refine ⟨cl,?_,e2,fun x hx hf => ?_,fun x c' e => ?_⟩
       · rw [List.forIn_cons]
         have:cellOf env n = pure c := by unfold cellOf; rw [hc]
         simp only [beq_self_eq_true,if_true,this,pure_bind]
         exact e1
       · rcases List.mem_cons.mp hx with rfl | hx
         · exact e4 n c (by rw [List.lookup_cons,beq_self_eq_true])
         · exact e3 x hx hf
       · cases hx:x == n with
         | true => exact e4 x c (by rw [List.lookup_cons,hx])
         | false => exact e4 x c' (by rw [List.lookup_cons,hx]; exact e)
     · obtain ⟨cl,e1,e2,e3,e4⟩ := ih cs (fun x hx => h1 x (List.mem_cons_of_mem _ hx)) h2
       refine ⟨cl,?_,e2,fun x hx hf => ?_,e4⟩
       · rw [List.forIn_cons]
         have hb:(k == NameKind.free) = false := by simpa using hk
         simp only [hb,Bool.false_eq_true,if_false,pure_bind]
         exact e1
       · rcases List.mem_cons.mp hx with rfl | hx
         · exact absurd hf hk
         · exact e3 x hx hf
 obtain ⟨cl,e1,e2,e3,_⟩ := go scope.names [] h (fun x c e => by cases e)
 refine ⟨cl,?_,e2,e3⟩
 unfold closureFor
 simp only [bind_pure]
 exact e1
noncomputable def PTs (X:Cx) (ifs:List Expr) (t:TT):Prop :=
 ∀ (pins:List (Addr × Obj)) (s:Shared) (σ:St) (H:Hp) (Q:Bool -> Hp -> Prop),Inv X pins σ H s -> t σ H Q ->
   wpAny (model X.prog X.w) X.A (forIn ifs true fun c r => if r = true then do let ok <- isTrue c X.env (eval c X.env); pure (ForInStep.yield ok) else pure (ForInStep.yield r)) (TP X pins σ Q) X.xe s
noncomputable def tYes:TT := fun _ H Q => Q true H
theorem yK {X:Cx}:PTs X [] tYes := fun _ _ _ H _ I h => wpAny_tests_nil ⟨H,I,h⟩
theorem Zl {X:Cx} {c:Expr} {t:TT} (h:PT X c t):PTs X [c] t := fun pins s σ H Q I q => wpAny_tests_one (h pins s σ H Q I q)
noncomputable def Yy (wi:TI) (ix:List (Option Nat)) (g:TG) (tc:TT) (te:TE) (σ:St) (H:Hp) (R:List V -> Hp -> Prop):Prop := wi σ H fun J H1 => ∃ W:Nat -> Nat -> List V -> St -> Hp -> Prop,(∃ m,W 0 m [] (seen ix σ) H1) /\ ∀ i m ys σ' H',W i m ys σ' H' ->
 (J.stop i H' /\ ys.length <= sizeLine /\ R ys H') \/
 (J.go i H' /\ ys.length <= sizeLine /\ ∃ N:List V -> St -> Hp -> Prop,(∀ ys' σ2 H2,N ys' σ2 H2 -> ∃ m',m' < m /\ W (i + 1) m' ys' σ2 H2) /\
   ∀ x H2,J.yld i H' x H2 -> g x σ' H2 fun σ2 H3 => tc σ2 H3 fun b H4 => if b = true then te σ2 H4 fun y H5 => N (ys ++ [y]) σ2 H5 else N ys σ2 H4)
noncomputable def za7 (wi:TI) (ix:List (Option Nat)) (g:TG) (tc:TT) (te:TE):TE := fun σ H Q => Yy wi ix g tc te σ H fun ys H' => ∀ l,H' l = none -> Q (.ref l) (upd H' l (.lst ys))
noncomputable def jU (scope outer:Scope) (N Nc:List Str) (ix:List (Option Nat)):Bool :=
 scope.names.all (fun y => y.2 != .cell) && scope.kind == .function && scope.names.all (fun y => y.2 != .local || scope.names.lookup y.1 == some .local) &&
 scope.names.all (fun y => y.2 != .free || outer.names.lookup y.1 == some .cell || outer.names.lookup y.1 == some .free) && ix.length == Nc.length &&
 (List.range Nc.length).all fun i => match ix[i]?,Nc[i]? with
   | some (some j),some x => N[j]? == some x && (outer.names.lookup x == some .cell || outer.names.lookup x == some .free) && scope.names.lookup x == some .free
   | _,_ => true
theorem ql {env:Env}:∀ {names:List (Str × NameKind)} {y:Str} {k:NameKind},(∀ z ∈ names,z.2 ≠ .cell) ->
   (names.map fun (n,k) => if (k == NameKind.free && env.scope.kind == .function && env.kindOf n == some .cell) then (n,NameKind.cell) else (n,k)).lookup y = some k -> k = .cell \/ k = .free -> ∃ z ∈ names,z.1 = y /\ z.2 = .free
 | [],_,_,_,h,_ => by simp at h
 | (n,k0) :: r,y,k,hc,h,hk => by
   rw [List.map_cons] at h
   have h:List.lookup y ((if (k0 == NameKind.free && env.scope.kind == .function && env.kindOf n == some .cell) = true then (n,NameKind.cell) else (n,k0)) :: _) = some k := h
   cases hx:y == n with
   | true =>
     by_cases hb:(k0 == NameKind.free && env.scope.kind == .function && env.kindOf n == some .cell) = true
     · simp only [Bool.and_eq_true,beq_iff_eq] at hb
       exact ⟨(n,k0),List.mem_cons_self,(eq_of_beq hx).symm,hb.1.1⟩
     · rw [if_neg hb,List.lookup_cons,hx] at h
       cases h
       rcases hk with rfl | rfl
       · exact absurd rfl (hc (n,.cell) List.mem_cons_self)
       · exact ⟨(n,.free),List.mem_cons_self,(eq_of_beq hx).symm,rfl⟩
   | false =>
     have h':List.lookup y (r.map fun (n,k) => if (k == NameKind.free && env.scope.kind == .function && env.kindOf n == some .cell) then (n,NameKind.cell) else (n,k)) = some k := by
       by_cases hb:(k0 == NameKind.free && env.scope.kind == .function && env.kindOf n == some .cell) = true
       · rw [if_pos hb,List.lookup_cons,hx] at h; exact h
       · rw [if_neg hb,List.lookup_cons,hx] at h; exact h
     obtain ⟨z,hz,e1,e2⟩ := ql (fun z hz => hc z (List.mem_cons_of_mem _ hz)) h' hk
     exact ⟨z,List.mem_cons_of_mem _ hz,e1,e2⟩
theorem wG {env:Env}:∀ {names:List (Str × NameKind)} {y:Str},names.lookup y = some .free ->
   (names.map fun (n,k) => if (k == NameKind.free && env.scope.kind == .function && env.kindOf n == some .cell) then (n,NameKind.cell) else (n,k)).lookup y = some .cell \/
   (names.map fun (n,k) => if (k == NameKind.free && env.scope.kind == .function && env.kindOf n == some .cell) then (n,NameKind.cell) else (n,k)).lookup y = some .free
 | [],_,h => by simp at h
 | (n,k0) :: r,y,h => by
   rw [List.map_cons]
   show List.lookup y ((if (k0 == NameKind.free && env.scope.kind == .function && env.kindOf n == some .cell) = true then (n,NameKind.cell) else (n,k0)) :: _) = _ \/ List.lookup y ((if (k0 == NameKind.free && env.scope.kind == .function && env.kindOf n == some .cell) = true then (n,NameKind.cell) else (n,k0)) :: _) = _
   cases hx:y == n with
   | true =>
     rw [List.lookup_cons,hx] at h
     cases h
     by_cases hb:((NameKind.free == NameKind.free) && env.scope.kind == .function && env.kindOf n == some .cell) = true
     · rw [if_pos hb,List.lookup_cons,hx]; exact .inl rfl
     · rw [if_neg hb,List.lookup_cons,hx]; exact .inr rfl
   | false =>
     rw [List.lookup_cons,hx] at h
     by_cases hb:(k0 == NameKind.free && env.scope.kind == .function && env.kindOf n == some .cell) = true
     · rw [if_pos hb,List.lookup_cons,hx]; exact wG h
     · rw [if_neg hb,List.lookup_cons,hx]; exact wG h
theorem ZP {X:Cx} {elt tg iter:Expr} {ifs:List Expr} {scope:Scope} {pos ipos:Pos} {Nc:List Str} {ix:List (Option Nat)} {wi:TI} {g:TG} {tc:TT} {te:TE} {use:Option (Value -> Sem Unit)} {Q':Value -> Shared -> Prop} {R:List V -> Hp -> Prop}
   {pins:List (Addr × Obj)} {σ:St} {H:Hp} {s:Shared} (hc:X.calm = true)
   (hcell:∀ y ∈ scope.names,y.2 ≠ .cell) (hkind:scope.kind = .function) (hnames:∀ y ∈ scope.names,y.2 = .local -> scope.names.lookup y.1 = some .local)
   (hfree:∀ y ∈ scope.names,y.2 = .free -> X.env.kindOf y.1 = some .cell \/ X.env.kindOf y.1 = some .free) (hvis:∀ y k,(relabel scope X.env).names.lookup y = some k -> k = .cell \/ k = .free -> ∃ z ∈ scope.names,z.1 = y /\ z.2 = .free)
   (hlen:ix.length = Nc.length) (hix:∀ (i:Nat) (x:Str) (j:Nat),Nc[i]? = some x -> ix[i]? = some (some j) -> X.N[j]? = some x /\ Vis X.env.scope x /\ (X.env.kindOf x = some .local -> False) /\ ((relabel scope X.env).names.lookup x = some .cell \/ (relabel scope X.env).names.lookup x = some .free))
   (hi:PI X tg iter wi) (hg:∀ cl s H C fp,PG (z9 X Nc scope cl s H C fp) tg g) (hifs:∀ cl s H C fp,PTs (z9 X Nc scope cl s H C fp) ifs tc) (he:∀ cl s H C fp,PE (z9 X Nc scope cl s H C fp) elt te)
   (hs:∀ x,foldedSetIterable iter X.env x = pure x) (I:Inv X pins σ H s) (h:Yy wi ix g tc te σ H R)
   (fin:∀ (D C:Addr) (oC:Obj) (ys:List V) (H3:Hp) (s4:Shared),(∃ m,∀ h':Heap,h'.get? C = some oC -> h'.Ns C m) -> H3 D = none -> (upd H3 D (.lst ys)) C = none -> wJ X pins C -> Inv X (pins ++ [(C,oC)]) σ (upd H3 D (.lst ys)) s4 -> R ys H3 ->
     compPost (model X.prog X.w) X.A X.xe use Q' (.ref D) C (.ok .next) s4) :
   wpAny (model X.prog X.w) X.A (comprehension (.ListComp elt [⟨tg,iter,ifs,0⟩] scope pos) scope X.env ipos (newList []) false (eval iter X.env) use) Q' X.xe s := by
 obtain ⟨cl,hclos,clX,clF⟩ := XV (scope := scope) (env := X.env) fun x hx hf => I.ok.has x.1 (hfree x hx hf)
 refine wpAny_comprehension_free (use := use) rfl hs hclos hkind hnames (thn (hi pins s σ H _ I h) fun v s1 h1 => thn h1 fun itv s2 h2 => ?_)
 obtain ⟨it,fp,tn,J,H1,rfl,I1,T,t0,hfp,W,⟨m0,w0⟩,turn⟩ := h2
 refine wpAny_newObj_type (wpAny_newFunctionEnv hcell (by intro y hy; simp at hy) (fun h₁ hns₁ hsb₁ => ?_) hkind)
 dsimp only at hns₁ hsb₁ ⊢
 generalize hH2:s2.heap.push { cls := .type "list",dict := none,data := .seq ([]:List Value).toArray } = H2 at hns₁ hsb₁ ⊢
 have hC:H2.objs.size = s2.heap.objs.size + 1 := by rw [<- hH2,Heap.size_push]
 have hDC:s2.heap.objs.size ≠ H2.objs.size := by rw [hC]; exact Nat.ne_of_lt (Nat.lt_succ_self _)
 have old:∀ b o,s2.heap.get? b = some o -> h₁.get? b = some o := fun b o e => by
   have hb := Heap.lt_size e
   exact hsb₁.extBut b o (by rw [hC]; exact Nat.ne_of_lt (Nat.lt_succ_of_lt hb)) (Heap.get?_push_of_some _ (hH2 ▸ Heap.get?_push_of_some _ e))
 obtain ⟨e0,hacc⟩ : ∃ e0,h₁.get? s2.heap.objs.size = some (seqObj "list" ([]:List Value).toArray e0) := ⟨_,hsb₁.extBut _ _ hDC (Heap.get?_push_of_some _ (hH2 ▸ Heap.get?_push_size _ rfl))⟩
 generalize hCC:H2.objs.size = C at hns₁ hsb₁ hDC hC ⊢
 generalize hDD:s2.heap.objs.size = D at hDC hC hacc ⊢
 have hDle:s2.heap.objs.size <= D := Nat.le_of_eq hDD
 have hCle:s2.heap.objs.size <= C := by rw [hC,<- hDD]; exact Nat.le_succ _
 have yD := I1.young hDle
 have nD:H1 D = none := I1.hok.fresh hDle
 have nC:H1 C = none := I1.hok.fresh hCle
 have fpLt:∀ b ∈ fp,b < s2.heap.objs.size := fun b hb => by
   obtain ⟨o,e,_⟩ := T.obj 0 _ t0 b hb
   exact Heap.lt_size e
 have fpD:D ∉ fp := fun hm => absurd (fpLt _ hm) (Nat.not_lt.mpr hDle)
 have fpC:C ∉ fp := fun hm => absurd (fpLt _ hm) (Nat.not_lt.mpr hCle)
 have frN:∀ b ∈ frs X.stack,b < s2.heap.objs.size := fun b hb => by
   obtain ⟨_,o,ho,_⟩ := I1.stack.mem hb
   exact Heap.lt_size ho
 have frFp:∀ b ∈ fp,b ∉ frs X.stack := fun b hb hm => by
   rcases List.mem_cons.mp (I1.stkSub b hm) with z | z
   · exact (hfp b hb).2.1 z
   · exact (hfp b hb).2.2.1 z
 -- the block's context
 have ok:(z9 X Nc scope cl s2 H1 C fp).Ok :=
   ⟨I.ok.mod,(by show (relabel scope X.env).kind = _; exact hkind),I.ok.glob,I.ok.blt,hCle,(fun x y c e1 e2 => I.ok.inj x y c (clX x c e1) (clX y c e2)),
     (fun x hx => by
       obtain ⟨z,hz,rfl,hf⟩ : ∃ z ∈ scope.names,z.1 = x /\ z.2 = .free := by
         rcases hx with hx | hx
         · exact hvis x _ hx (.inl rfl)
         · exact hvis x _ hx (.inr rfl)
       exact clF z hz hf),(fun x c z => nomatch z),I.ok.hd,I.ok.frames,.inl rfl,
     (fun b hb => ⟨fun z => fpC ((show b = C from z) ▸ hb),fun x c e => (hfp b hb).2.2.2.2.1 x c (clX x c e)⟩),(fun b o e => I1.bs b o e),Nat.le_trans I.ok.bsz I1.sz,
     (fun b o e hb => by
       rcases (hfp b hb).2.2.2.1 with z | z
       · exact I.ok.noex b o e z
       · have := Heap.lt_size (I.ok.bs b o e).1
         exact absurd this (Nat.not_lt.mpr z)),
     frFp,I1.stack,I1.stkFree⟩
 have start:∀ tk,Inv (z9 X Nc scope cl s2 H1 C fp) [(D,seqObj "list" ([]:List Value).toArray e0)] (seen ix σ) H1 { s2 with heap := h₁,toks := tk } := fun tk => by
   refine ⟨ok,rfl,I1.bare,Un.kept old,⟨_,hns₁,fun i x v e1 e2 e3 => ?_⟩,fun x c e => ?_,nC,fun x c e => I1.freeC x c (clX x c e),fun p hp => ?_,I1.hok.kept old,by show (seen ix σ).length = Nc.length; unfold seen; rw [List.length_map]; exact hlen⟩
   · unfold seen at e2
     rw [List.getElem?_map] at e2
     cases ei:ix[i]? with
     | none => rw [ei] at e2; cases e2
     | some o =>
       rw [ei] at e2
       cases o with
       | none => cases e2
       | some j =>
         have e2':(σ[j]?).getD none = some v := Option.some.inj e2
         have e2'':σ[j]? = some (some v) := by
           cases ej:σ[j]? with
           | none => rw [ej] at e2'; cases e2'
           | some z => rw [ej] at e2'; exact congrArg some e2'
         obtain ⟨n1,n2,n3,n4⟩ := hix i x j e1 ei
         obtain ⟨m,hm,hl⟩ := I1.loc
         obtain ⟨u,ru,lk⟩ := hl j x v n1 e2'' n2
         refine ⟨u,ru,.inr ⟨n4,?_⟩⟩
         rcases lk with ⟨k,_⟩ | ⟨_,c,ec,hc'⟩
         · exact (n3 k).elim
         · obtain ⟨z,hz,rfl,hf⟩ : ∃ z ∈ scope.names,z.1 = x /\ z.2 = .free := by
             rcases n4 with hx | hx
             · exact hvis x _ hx (.inl rfl)
             · exact hvis x _ hx (.inr rfl)
           obtain ⟨c',ec'⟩ := clF z hz hf
           have:c' = c := Option.some.inj ((clX _ _ ec').symm.trans ec)
           subst this
           obtain ⟨o,ho,hd⟩ := hc'
           exact ⟨c',ec',o,old _ o ho,hd⟩
   · obtain ⟨v,o,ho,hd⟩ := I1.cell x c (clX x c e)
     exact ⟨v,o,old _ o ho,hd⟩
   · have hp':p = (D,seqObj "list" ([]:List Value).toArray e0) := by simpa [z9] using hp
     subst hp'
     exact ⟨hacc,nD,hDC,fun hm => absurd (frN _ hm) (Nat.not_lt.mpr hDle),fun v z => by cases z⟩
 have stat:∀ {ks:List Value} {e:Nat} {H':Hp},(∀ b ∈ fp,H' b = none) -> ∀ b ∈ fp,FpOk (z9 X Nc scope cl s2 H1 C fp) [(D,seqObj "list" ks.toArray e)] H' b := fun {ks e H'} hn b hb =>
   ⟨hn b hb,fun z => fpC ((show b = C from z) ▸ hb),frFp b hb,.inl hb,fun x c ec => (hfp b hb).2.2.2.2.1 x c (clX x c ec),fun p hp z => by
     have hp':p = (D,seqObj "list" ks.toArray e) := by simpa [z9] using hp
     subst hp'
     exact fpD ((show b = D from z.symm) ▸ hb)⟩
 have loop:∀ tk,codeAny (model X.prog X.w) X.A (.compLoop (.ListComp elt [⟨tg,iter,ifs,0⟩] scope pos) 0 (.ref it) (.ref D) (compEnvC scope cl C X.env)) (compPost (model X.prog X.w) X.A X.xe use Q' (.ref D) C) { s2 with heap := h₁,toks := tk } := fun tk => by
   refine codeAny_loop rfl (fun n s' => ∃ i ys ks e σ' H',Inv (z9 X Nc scope cl s2 H1 C fp) [(D,seqObj "list" ks.toArray e)] σ' H' s' /\ Vals ys ks /\ tn i s'.heap /\ (∀ b ∈ fp,H' b = none) /\ W i n ys σ' H') ?_ m0
     ⟨0,[],[],e0,_,H1,start tk,.nil,T.keep _ _ _ t0 fun b _ o e => old b o e,fun b hb => (hfp b hb).1,w0⟩
   rintro n s3 ⟨i,ys,ks,e,σ3,H3,I3,rv,st3,fr3,w3⟩
   show wpAny _ X.A ((compTurn (.ListComp elt [⟨tg,iter,ifs,0⟩] scope pos) 0 (.ref it) (.ref D) (compEnvC scope cl C X.env)).onRaise (fun x => do noteFrame x (compEnvC scope cl C X.env); theTreesLotGoes x)) _ _ s3
   refine wpAny_noted ?_
   rw [compTurn_list]
   refine wpAny_bind (wpAny_standAt ?_)
   have lk := rv.length
   rcases turn i n ys σ3 H3 w3 with ⟨stop,sz,q⟩ | ⟨go,sz,N,hN,step⟩
   · refine wpAny_bind (thn (T.done (z9 X Nc scope cl s2 H1 C fp) rfl rfl rfl hc i _ s3 σ3 H3 _ I3 (stat fr3) st3 stop) fun r s4 h9 => ?_)
     obtain ⟨hr,I4⟩ := h9
     subst hr
     refine wpAny_pure ?_
     obtain ⟨m,⟨oC,esC,epC,hoC,hdC,rC⟩,_⟩ := I4.loc
     have hoC:s4.heap.get? C = some oC := hoC
     have pD := I4.pin (D,seqObj "list" ks.toArray e) (List.mem_append_right _ List.mem_cons_self)
     have nC4:H3 C = none := I4.free
     have yC := I1.young hCle
     have I5:Inv X pins σ H3 s4 := I1.call' (ch := fp) I4.os (show Un (frs X.stack) fp H1 H3 s2.heap s4.heap from I4.base) I4.hok I4.bare fun b hb => ⟨(hfp b hb).2.2.2.1,(hfp b hb).2.1,(hfp b hb).2.2.2.2.1,(hfp b hb).2.2.2.2.2⟩
     have I6 := I5.track (p := D) (o := .lst ys) pD.2.1 (Heap.get?_none_of_le (Nat.le_trans I1.sz hDle)) yD.lo yD.ce yD.pi ⟨sz,ks,e,rv,pD.1⟩
     have nC6:(upd H3 D (.lst ys)) C = none := by rw [zq hDC.symm]; exact nC4
     have I7:Inv X (pins ++ [(C,oC)]) σ (upd H3 D (.lst ys)) s4 := I6.pins_of fun p hp => by
       rcases List.mem_append.mp hp with hp | hp
       · exact I6.pin p (List.mem_append_right _ hp)
       · obtain rfl := List.mem_singleton.mp hp
         exact ⟨hoC,nC6,yC.lo,yC.fs,fun v z => by rw [hdC] at z; cases z⟩
     exact fin D C oC ys H3 s4 ⟨m,fun h' e' => ⟨oC,esC,epC,e',hdC,rC⟩⟩ pD.2.1 nC6 yC I7 q
   · refine wpAny_bind (thn (T.item (z9 X Nc scope cl s2 H1 C fp) rfl rfl rfl hc i _ s3 σ3 H3 _ I3 (stat fr3) st3 go) fun r s4 h9 => ?_)
     obtain ⟨u,hr,h4⟩ := h9
     subst hr
     refine wpAny_bind (thn h4 fun _ s5 h9 => ?_)
     obtain ⟨x,H5,I5,r5,y5,st5,fr5⟩ := h9
     have I5' := I5.pinned (stat fr5) (T.obj _ _ st5)
     refine wpAny_bind (wpAny_mono (hg cl s2 H1 C fp _ s5 σ3 H5 x u _ I5' r5 (step x H5 y5)) (fun _ s6 ⟨σ6,H6,I6,q6⟩ => ?_) fun _ _ z => False.elim z)
     refine wpAny_bind (wpAny_mono (hifs cl s2 H1 C fp _ s6 σ6 H6 _ I6 q6) (fun ok s7 ⟨H7,I7,q7⟩ => ?_) fun _ _ z => False.elim z)
     have fin:∀ {ks':List Value} {e':Nat} {ys':List V} {σ8:St} {H8:Hp} {s8:Shared},Inv (z9 X Nc scope cl s2 H1 C fp) ([(D,seqObj "list" ks'.toArray e')] ++ xU fp s5.heap) σ8 H8 s8 -> Vals ys' ks' -> N ys' σ8 H8 ->
         ∃ m,m < n /\ ∃ i ys ks e σ' H',Inv (z9 X Nc scope cl s2 H1 C fp) [(D,seqObj "list" ks.toArray e)] σ' H' s8 /\ Vals ys ks /\ tn i s8.heap /\ (∀ b ∈ fp,H' b = none) /\ W i m ys σ' H' := fun {ks' e' ys' σ8 H8 s8} I8 rv' n8 => by
       obtain ⟨m',hm,w8⟩ := hN _ σ8 H8 n8
       refine ⟨m',hm,i + 1,ys',ks',e',σ8,H8,I8.unpinned,rv',T.keep _ _ _ st5 fun b hb o eo => (I8.pin (b,o) (List.mem_append_right _ (List.mem_append_right _ (wc hb eo)))).1,fun b hb => ?_,w8⟩
       obtain ⟨o,eo,d⟩ := T.obj _ _ st5 b hb
       exact (I8.pin (b,o) (List.mem_append_right _ (List.mem_append_right _ (wc hb eo)))).2.1
     cases ok with
     | false =>
       have q7 := Jz q7
       exact wpAny_pure ⟨rfl,fin I7 rv q7⟩
     | true =>
       have q7 := JA q7
       refine wpAny_bind (wpAny_bind (wpAny_mono (he cl s2 H1 C fp _ s7 σ6 H7 _ I7 q7) (fun y s8 ⟨vy,H8,I8,ry,n8⟩ => ?_) fun _ _ z => False.elim z))
       have pD := I8.pin (D,seqObj "list" ks.toArray e) (List.mem_append_right _ (List.mem_append_left _ List.mem_cons_self))
       refine wpAny_bind (wpAny_list_append_plain (hsz := by rw [List.size_toArray,<- lk]; exact sz) ⟨e,pD.1⟩ fun h9 hl9 hs9 => ?_)
       refine wpAny_pure (wpAny_pure ⟨rfl,?_⟩)
       obtain ⟨e9,hl9⟩ := hl9
       have ea:ks.toArray.push y = (ks ++ [y]).toArray := by simp
       rw [ea] at hl9
       refine fin (ks' := ks ++ [y]) (e' := e9) (ys' := ys ++ [vy]) ?_ (Vals.append rv (.cons ry .nil)) n8
       have ne9:∀ p ∈ xU fp s5.heap,p.1 ≠ D := fun p hp z => fpD (z ▸ (Zx hp).1)
       have yDb:wJ (z9 X Nc scope cl s2 H1 C fp) (xU fp s5.heap) D := ⟨hDC,fun hm => absurd (frN _ hm) (Nat.not_lt.mpr hDle),.inr hDle,fun x c ec => yD.ce x c (clX x c ec),fun p hp => ne9 p (by simpa [z9] using hp)⟩
       have I8a:Inv (z9 X Nc scope cl s2 H1 C fp) (xU fp s5.heap) σ6 H8 s8 := I8.pins_of fun p hp => I8.pin p (List.mem_append_right _ (List.mem_append_right _ hp))
       have I8b := I8a.record yDb pD.2.1 hs9
       exact I8b.pins_of fun p hp => by
         rcases List.mem_append.mp hp with hp | hp
         · obtain rfl := List.mem_singleton.mp hp
           exact ⟨hl9,pD.2.1,yDb.lo,yDb.fs,fun v z => by cases z⟩
         · exact I8b.pin p (List.mem_append_right _ hp)
 exact codeAny_compStart_list (loop _) (T.self _ 0 _ _ _ (T.keep _ _ _ t0 fun b _ o e => old b o e) (loop _))
theorem jV {X:Cx} {scope:Scope} {Nc:List Str} {ix:List (Option Nat)} (h:jU scope X.env.scope X.N Nc ix = true):(∀ y ∈ scope.names,y.2 ≠ .cell) /\ scope.kind = .function /\ (∀ y ∈ scope.names,y.2 = .local -> scope.names.lookup y.1 = some .local) /\
   (∀ y ∈ scope.names,y.2 = .free -> X.env.kindOf y.1 = some .cell \/ X.env.kindOf y.1 = some .free) /\ ix.length = Nc.length /\
   ∀ (i:Nat) (x:Str) (j:Nat),Nc[i]? = some x -> ix[i]? = some (some j) -> X.N[j]? = some x /\ Vis X.env.scope x /\ (X.env.kindOf x = some .local -> False) /\ ((relabel scope X.env).names.lookup x = some .cell \/ (relabel scope X.env).names.lookup x = some .free) := by
 unfold jU at h
 simp only [Bool.and_eq_true,beq_iff_eq,List.all_eq_true,Bool.or_eq_true,bne_iff_ne] at h
 obtain ⟨⟨⟨⟨⟨h1,h2⟩,h3⟩,h4⟩,h5⟩,h6⟩ := h
 refine ⟨h1,h2,fun y hy e => ?_,fun y hy e => ?_,h5,fun i x j e1 e2 => ?_⟩
 · rcases h3 y hy with z | z
   · exact absurd e z
   · exact z
 · rcases h4 y hy with (z | z) | z
   · exact absurd e z
   · exact .inl z
   · exact .inr z
 · have q := h6 i (List.mem_range.mpr (List.getElem?_eq_some_iff.mp e1).1)
   rw [e1,e2] at q
   simp only [Bool.and_eq_true,beq_iff_eq,Bool.or_eq_true] at q
   obtain ⟨⟨q1,q2⟩,q3⟩ := q
   refine ⟨q1,?_,fun z => ?_,wG q3⟩
   · rcases q2 with z | z
     · exact .inr (.inl z)
     · exact .inr (.inr z)
   · have z':X.env.scope.names.lookup x = some .local := z
     rcases q2 with y | y
     · rw [y] at z'; cases z'
     · rw [y] at z'; cases z'
theorem yW {X:Cx} {elt tg iter:Expr} {ifs:List Expr} {scope:Scope} {pos:Pos} {Nc:List Str} {ix:List (Option Nat)} {wi:TI} {g:TG} {tc:TT} {te:TE} (hc:X.calm = true) (hok:jU scope X.env.scope X.N Nc ix = true)
   (hi:PI X tg iter wi) (hg:∀ cl s H C fp,PG (z9 X Nc scope cl s H C fp) tg g) (hifs:∀ cl s H C fp,PTs (z9 X Nc scope cl s H C fp) ifs tc) (he:∀ cl s H C fp,PE (z9 X Nc scope cl s H C fp) elt te)
   (hs:∀ x,foldedSetIterable iter X.env x = pure x := by intro _; rfl):PE X (.ListComp elt [⟨tg,iter,ifs,0⟩] scope pos) (za7 wi ix g tc te) := by
 intro pins s σ H Q I h
 obtain ⟨h1,h2,h3,h4,h5,h6⟩ := jV hok
 rw [eval_ListComp]
 refine ZP (Q' := EP X pins σ Q) hc h1 h2 h3 h4 (fun y k e hk => ql h1 e hk) h5 h6 hi hg hifs he hs I h fun D C oC ys H3 s4 hN nD nC yC I4 q => ?_
 have pC := I4.pin (C,oC) (List.mem_append_right _ (List.mem_append_right _ List.mem_cons_self))
 obtain ⟨m,hm⟩ := hN
 exact ⟨m,hm _ pC.1,fun h' hsb => ⟨.ref D,_,I4.unpinned.record yC nC hsb,rfl,q D nD⟩⟩
noncomputable def za8 (i:Nat) (wi:TI) (ix:List (Option Nat)) (g:TG) (tc:TT) (te:TE):TS := fun D σ H => Yy wi ix g tc te σ H fun ys H' => ∀ l,H' l = none -> D.nx (σ.set i (some (.ref l))) (upd H' l (.lst ys))
theorem jk {X:Cx} {i:Nat} {y:Str} {elt tg iter:Expr} {ifs:List Expr} {scope:Scope} {pos spos py:Pos} {Nc:List Str} {ix:List (Option Nat)} {wi:TI} {g:TG} {tc:TT} {te:TE} (hN:X.N.Nodup) (hi':X.N[i]? = some y) (hx:Loc X.env.scope y) (hc:X.calm = true) (hok:jU scope X.env.scope X.N Nc ix = true)
   (hi:PI X tg iter wi) (hg:∀ cl s H C fp,PG (z9 X Nc scope cl s H C fp) tg g) (hifs:∀ cl s H C fp,PTs (z9 X Nc scope cl s H C fp) ifs tc) (he:∀ cl s H C fp,PE (z9 X Nc scope cl s H C fp) elt te)
   (hs:∀ x,foldedSetIterable iter X.env x = pure x := by intro _; rfl) (hsw:swapsWith (.ListComp elt [⟨tg,iter,ifs,0⟩] scope pos) (some (.Name y py)) spos.line X.env = pure true := by rfl)
   (hf:X.fn y = true \/ X.env.scope.names.lookup y = some .local := by first | exact .inl rfl | exact .inr rfl | assumption):PS X (.Assign [.Name y py] (.ListComp elt [⟨tg,iter,ifs,0⟩] scope pos) spos) (za8 i wi ix g tc te) := by
 intro pins s σ H D I h
 obtain ⟨h1,h2,h3,h4,h5,h6⟩ := jV hok
 rw [exec_Assign_Name_used _ _ _ _ hsw]
 refine wpAny_bind (wpAny_standAt (wpAny_bind ?_))
 show wpAny _ X.A (do let _ <- comprehension (.ListComp elt [⟨tg,iter,ifs,0⟩] scope pos) scope X.env _ (newList []) false (eval iter X.env) (some (assign (.Name y py) X.env))) _ _ s
 refine wpAny_bind (wpAny_mono (ZP (Q' := fun _ s' => SP X pins D .next s') hc h1 h2 h3 h4 (fun y k e hk => ql h1 e hk) h5 h6 hi hg hifs he hs I h fun Da C oC ys H3 s4 hN' nD nC yC I4 q => ?_)
   (fun _ s' hq => wpAny_pure (wpAny_pure hq)) fun _ _ e => e)
 show wpAny _ _ (assign (.Name y py) X.env (.ref Da)) _ _ s4
 refine thn (zp (i := i) hN hi' hx hf _ s4 σ _ (.ref Da) (.ref Da) (fun σ' H' => σ' = σ.set i (some (.ref Da)) /\ H' = upd H3 Da (.lst ys)) I4 rfl ⟨rfl,rfl⟩) fun _ s5 h9 => ?_
 obtain ⟨σ5,H5,I5,e1,e2⟩ := h9
 subst e1 e2
 have pC := I5.pin (C,oC) (List.mem_append_right _ (List.mem_append_right _ List.mem_cons_self))
 obtain ⟨m,hm⟩ := hN'
 exact ⟨m,hm _ pC.1,fun h' hsb => ⟨_,_,I5.unpinned.record yC nC hsb,q Da nD⟩⟩
end _L2
namespace _L2
open PySem PySem.Spec PyProof.Rows
section
variable {X:Cx}
theorem qm {pins:List (Addr × Obj)} {σ:St} {H:Hp} {s:Shared} {a:Addr} {its:List Value} (I:Inv X pins σ H s) (tp:s.heap.IsList a its.toArray) (hc:X.calm = true) {Q:Value -> Shared -> Prop}
   (q:∀ s2:Shared,s2 = { s with heap := s.heap.push { cls := .type "list_iterator",data := .fields #[.ref a,.int 0 0] } } -> Walks X.prog X.w X.A.in1 s.heap.objs.size [s.heap.objs.size,a] [s.heap.objs.size] its.toArray.size (fun i v => its.toArray[i]? = some v) (fun i h => h.IsListIter s.heap.objs.size a i /\ h.IsList a its.toArray) ->
     (s2.heap.IsListIter s.heap.objs.size a 0 /\ s2.heap.IsList a its.toArray) -> (∀ b ∈ [s.heap.objs.size,a],b < s2.heap.objs.size) -> Q (.ref s.heap.objs.size) s2):wpAny (model X.prog X.w) X.A.in1 (pyIter (.ref a)) Q X.xe s := by
 have hlt:a < s.heap.objs.size := by obtain ⟨_,e,_⟩ := tp; exact Heap.lt_size e
 refine wpAny_pyIter_list tp (q _ rfl (Walks.list (by exact I.ok.hd hc) _ _ (Nat.ne_of_lt hlt) _) ⟨⟨_,Heap.get?_push_size _ rfl,rfl,rfl⟩,?_⟩ fun b hb => ?_)
 · obtain ⟨o,e,r⟩ := tp
   exact ⟨o,Heap.get?_push_of_some _ e,r⟩
 · show b < (s.heap.push _).objs.size
   rw [Heap.size_push]
   rcases List.mem_cons.mp hb with rfl | hb
   · exact Nat.lt_succ_self _
   · rw [List.mem_singleton.mp hb]
     exact Nat.lt_succ_of_lt hlt
theorem Yz {bs:List Bool} {its:List Value} (r:Vals (bs.map V.bl) its):∀ (i:Nat) (v:Value),its.toArray[i]? = some v -> v = Value.bool (bs.getD i false) := by
 intro i v e
 rw [List.getElem?_toArray] at e
 have hl := r.length
 have hi:i < its.length := (List.getElem?_eq_some_iff.mp e).1
 rw [List.length_map] at hl
 have hx:(bs.map V.bl)[i]? = some (.bl (bs.getD i false)) := by
   rw [List.getElem?_map,List.getElem?_eq_getElem (by omega)]
   simp [List.getD,show i < bs.length by omega]
 obtain ⟨u,hu,ru⟩ := r.get hx
 rw [e] at hu
 cases hu
 exact ru
theorem all_range (bs:List Bool):(List.range bs.length).all (fun i => bs.getD i false) = bs.all id := by
 rw [Bool.eq_iff_iff,List.all_eq_true,List.all_eq_true]
 constructor
 · intro h b hb
   obtain ⟨i,hi,rfl⟩ := List.mem_iff_getElem.mp hb
   have := h i (List.mem_range.mpr hi)
   rwa [getD_at hi] at this
 · intro h i hi
   have hi := List.mem_range.mp hi
   rw [getD_at hi]
   exact h _ (List.getElem_mem hi)
theorem any_range (bs:List Bool):(List.range bs.length).any (fun i => bs.getD i false) = bs.any id := by
 rw [Bool.eq_iff_iff,List.any_eq_true,List.any_eq_true]
 constructor
 · rintro ⟨i,hi,h⟩
   have hi := List.mem_range.mp hi
   rw [getD_at hi] at h
   exact ⟨_,List.getElem_mem hi,h⟩
 · rintro ⟨b,hb,h⟩
   obtain ⟨i,hi,rfl⟩ := List.mem_iff_getElem.mp hb
   exact ⟨i,List.mem_range.mpr hi,by rw [getD_at hi]; exact h⟩
theorem xZ (hc:X.calm = true):yr X (.builtin "all") (fun xs H Q => ∃ (a:Addr) (bs:List Bool),xs = [.ref a] /\ SqL X.K H a (bs.map V.bl) /\ Q (.bl (bs.all id)) H) := by
 intro pins s σ H xs us Q I r h
 obtain ⟨a,bs,rfl,hq,q⟩ := h
 obtain ⟨u,rfl,ru⟩ := vals1 r
 cases ru
 obtain ⟨its,rv,tp,hz⟩ := I.list hq
 have hl := rv.length
 rw [List.length_map] at hl
 refine call_all_walk (qm I tp.isList hc fun s2 e W st hfp => ?_)
 subst e
 refine ⟨_,_,_,_,_,_,fun i => bs.getD i false,rfl,W,st,fun i v A' Q' E' hP hQ => ?_,fun h' tk hk => ?_⟩
 · have := Yz rv i v hP
   subst this
   exact wpAny_truthy_bool hQ
 · refine ⟨.bl _,H,I.kept (t' := tk) fun b o e => hk b o (fun m => ?_) (Heap.get?_push_of_some _ e),?_,q⟩
   · have := Heap.lt_size e
     rw [List.mem_singleton.mp m] at this
     exact Nat.lt_irrefl _ this
   · show Value.bool _ = Value.bool _
     rw [List.size_toArray,<- hl,all_range]
theorem WU (hc:X.calm = true):yr X (.builtin "any") (fun xs H Q => ∃ (a:Addr) (bs:List Bool),xs = [.ref a] /\ SqL X.K H a (bs.map V.bl) /\ Q (.bl (bs.any id)) H) := by
 intro pins s σ H xs us Q I r h
 obtain ⟨a,bs,rfl,hq,q⟩ := h
 obtain ⟨u,rfl,ru⟩ := vals1 r
 cases ru
 obtain ⟨its,rv,tp,hz⟩ := I.list hq
 have hl := rv.length
 rw [List.length_map] at hl
 refine call_any_walk (qm I tp.isList hc fun s2 e W st hfp => ?_)
 subst e
 refine ⟨_,_,_,_,_,_,fun i => bs.getD i false,rfl,W,st,fun i v A' Q' E' hP hQ => ?_,fun h' tk hk => ?_⟩
 · have := Yz rv i v hP
   subst this
   exact wpAny_truthy_bool hQ
 · refine ⟨.bl _,H,I.kept (t' := tk) fun b o e => hk b o (fun m => ?_) (Heap.get?_push_of_some _ e),?_,q⟩
   · have := Heap.lt_size e
     rw [List.mem_singleton.mp m] at this
     exact Nat.lt_irrefl _ this
   · show Value.bool _ = Value.bool _
     rw [List.size_toArray,<- hl,any_range]
theorem WV (hc:X.calm = true):yr X (.builtin "min") (fun xs H Q => ∃ (a:Addr) (ns:List Int),xs = [.ref a] /\ SqL X.K H a (ns.map V.int) /\ 0 < ns.length /\ ∀ M,M ∈ ns -> (∀ z ∈ ns,M <= z) -> Q (.int M) H) := by
 intro pins s σ H xs us Q I r h
 obtain ⟨a,ns,rfl,hq,hn,q⟩ := h
 obtain ⟨u,rfl,ru⟩ := vals1 r
 cases ru
 obtain ⟨its,rv,tp,hz⟩ := I.list hq
 have hl := rv.length
 rw [List.length_map] at hl
 refine call_min_walk (qm I tp.isList hc fun s2 e W st hfp => ?_)
 subst e
 refine ⟨_,_,_,_,_,_,_,rfl,W,st,hfp,by simp; omega,CmpOf.ints_lt (fun i => ns.getD i 0) (xo rv),fun v h' tk hP hk => ?_⟩
 obtain ⟨t,rfl⟩ := xo rv _ _ hP
 obtain ⟨b1,b2⟩ := argBest_lt (fun i => ns.getD i 0) (its.toArray.size - 1)
 rw [List.size_toArray] at b1 b2
 refine ⟨.int _,H,I.kept (t' := tk) fun b o e => hk b o (fun m => ?_) (Heap.get?_push_of_some _ e),⟨t,rfl⟩,q _ (qd ?_) fun z hz => ?_⟩
 · have := Heap.lt_size e
   rw [List.mem_singleton.mp m] at this
   exact Nat.lt_irrefl _ this
 · rw [List.size_toArray]; omega
 · obtain ⟨j,hj,e⟩ := jP hz
   rw [<- e,List.size_toArray]
   exact b2 j (by omega)
theorem WW (hc:X.calm = true):yr X (.builtin "max") (fun xs H Q => ∃ (a:Addr) (ns:List Int),xs = [.ref a] /\ SqL X.K H a (ns.map V.int) /\ 0 < ns.length /\ ∀ M,M ∈ ns -> (∀ z ∈ ns,z <= M) -> Q (.int M) H) := by
 intro pins s σ H xs us Q I r h
 obtain ⟨a,ns,rfl,hq,hn,q⟩ := h
 obtain ⟨u,rfl,ru⟩ := vals1 r
 cases ru
 obtain ⟨its,rv,tp,hz⟩ := I.list hq
 have hl := rv.length
 rw [List.length_map] at hl
 refine call_max_walk (qm I tp.isList hc fun s2 e W st hfp => ?_)
 subst e
 refine ⟨_,_,_,_,_,_,_,rfl,W,st,hfp,by simp; omega,CmpOf.ints_gt (fun i => ns.getD i 0) (xo rv),fun v h' tk hP hk => ?_⟩
 obtain ⟨t,rfl⟩ := xo rv _ _ hP
 obtain ⟨b1,b2⟩ := argBest_gt (fun i => ns.getD i 0) (its.toArray.size - 1)
 rw [List.size_toArray] at b1 b2
 refine ⟨.int _,H,I.kept (t' := tk) fun b o e => hk b o (fun m => ?_) (Heap.get?_push_of_some _ e),⟨t,rfl⟩,q _ (qd ?_) fun z hz => ?_⟩
 · have := Heap.lt_size e
   rw [List.mem_singleton.mp m] at this
   exact Nat.lt_irrefl _ this
 · rw [List.size_toArray]; omega
 · obtain ⟨j,hj,e⟩ := jP hz
   rw [<- e,List.size_toArray]
   exact b2 j (by omega)
end
end _L2
namespace _L2
open PySem PySem.Spec PyProof.Rows
inductive EqR (K:PySem.W.Frag) (H:Hp):Nat -> V -> V -> Bool -> Prop where
 | flat {n:Nat} {x y:V} (fx:wj x = true) (fy:wj y = true):EqR K H n x y (eqV x y)
 | tups {n:Nat} {a b:Addr} {xs ys:List V} {e:Nat -> Bool} (ha:SqT K H a xs) (hb:SqT K H b ys) (he:∀ j,j < xs.length -> j < ys.length -> EqR K H n (xs.getD j .non) (ys.getD j .non) (e j)) :
     EqR K H (n + 1) (.ref a) (.ref b) ((List.range (min xs.length ys.length)).all e && xs.length == ys.length)
 | lsts {n:Nat} {a b:Addr} {xs ys:List V} {e:Nat -> Bool} (ha:SqL K H a xs) (hb:SqL K H b ys) (hl:xs.length = ys.length) (he:∀ j,j < xs.length -> EqR K H n (xs.getD j .non) (ys.getD j .non) (e j)) :
     EqR K H (n + 1) (.ref a) (.ref b) ((List.range xs.length).all e)
 | lens {n:Nat} {a b:Addr} {xs ys:List V} (ha:SqL K H a xs) (hb:SqL K H b ys) (hl:xs.length ≠ ys.length):EqR K H (n + 1) (.ref a) (.ref b) false
theorem YA:∀ {x:V},wj x = true -> eqV x x = true
 | .non,_ => rfl
 | .bl b,_ => beq_self_eq_true b
 | .int i,_ => beq_self_eq_true i
 | .str s,_ => beq_self_eq_true s
section
variable {X:Cx} {pins:List (Addr × Obj)} {σ:St} {H:Hp} {s:Shared}
theorem EqR.refl (I:Inv X pins σ H s) {n:Nat} {x y:V} {b:Bool} (h:EqR X.K H n x y b):x = y -> b = true := by
 induction h with
 | flat fx fy => intro e; subst e; exact YA fx
 | @tups n a b xs ys e ha hb he ih =>
   intro z
   cases z
   have := I.tuple_inj ha hb
   subst this
   rw [beq_self_eq_true,Bool.and_true,List.all_eq_true]
   intro j hj
   have hj := List.mem_range.mp hj
   exact ih j (by omega) (by omega) rfl
 | @lsts n a b xs ys e ha hb hl he ih =>
   intro z
   cases z
   have := I.list_inj ha hb
   subst this
   rw [List.all_eq_true]
   intro j hj
   exact ih j (List.mem_range.mp hj) rfl
 | @lens n a b xs ys ha hb hl =>
   intro z
   cases z
   exact absurd (by rw [I.list_inj ha hb]) hl
theorem EqR.at (I:Inv X pins σ H s) {n:Nat} {x y:V} {b:Bool} (h:EqR X.K H n x y b):∀ {A:Around} {u v:Value},RelV x u -> RelV y v -> A.units + n < cLine -> SeqAt.EqAt A s u v b := by
 induction h with
 | flat fx fy => intro A u v ru rv _; exact Wv ru rv fx fy
 | @tups n a b xs ys e ha hb he ih =>
   intro A u v ru rv hu
   cases ru
   cases rv
   by_cases hab:a = b
   · have := EqR.refl I (EqR.tups (n := n) ha hb he) (by rw [hab])
     rw [this,hab]
     exact SeqAt.EqAt.same _
   · obtain ⟨i1,r1,p1,z1⟩ := I.tuple ha
     obtain ⟨i2,r2,p2,z2⟩ := I.tuple hb
     have l1 := r1.length
     have l2 := r2.length
     have := SeqAt.RcAt.tuples (A := A) (e := e) (show s.heap.IsTuple a i1.toArray from p1) (show s.heap.IsTuple b i2.toArray from p2) (by omega) fun j h1 h2 => by
       have h1':j < i1.length := by simpa using h1
       have h2':j < i2.length := by simpa using h2
       have q := ih j (by omega) (by omega) (A := A.in1) (yG r1 h1') (yG r2 h2') (by show A.units + 1 + n < cLine; omega)
       simpa using q
     rw [List.size_toArray,List.size_toArray,<- l1,<- l2] at this
     exact SeqAt.EqAt.of_refs hab this
 | @lsts n a b xs ys e ha hb hl he ih =>
   intro A u v ru rv hu
   cases ru
   cases rv
   by_cases hab:a = b
   · have := EqR.refl I (EqR.lsts (n := n) ha hb hl he) (by rw [hab])
     rw [this,hab]
     exact SeqAt.EqAt.same _
   · obtain ⟨i1,r1,p1,z1⟩ := I.list ha
     obtain ⟨i2,r2,p2,z2⟩ := I.list hb
     have l1 := r1.length
     have l2 := r2.length
     have := SeqAt.RcAt.lists (A := A) (e := e) p1.isList p2.isList (by simp; omega) (by omega) fun j h1 h2 => by
       have h1':j < i1.length := by simpa using h1
       have h2':j < i2.length := by simpa using h2
       have q := ih j (by omega) (A := A.in1) (yG r1 h1') (yG r2 h2') (by show A.units + 1 + n < cLine; omega)
       simpa using q
     rw [List.size_toArray,<- l1] at this
     exact SeqAt.EqAt.of_refs hab this
 | @lens n a b xs ys ha hb hl =>
   intro A u v ru rv hu
   cases ru
   cases rv
   obtain ⟨i1,r1,p1,z1⟩ := I.list ha
   obtain ⟨i2,r2,p2,z2⟩ := I.list hb
   have l1 := r1.length
   have l2 := r2.length
   have hab:a ≠ b := fun z => by subst z; exact hl (by rw [I.list_inj ha hb])
   exact SeqAt.EqAt.of_refs hab (SeqAt.RcAt.lists_lengths p1.isList p2.isList (by simp; omega) (by omega))
noncomputable def rEqR (K:PySem.W.Frag) (neg:Bool):R2 := fun x y H Q => ∃ (a c:Addr) (n:Nat) (b:Bool),x = .ref a /\ y = .ref c /\ EqR K H n x y b /\ n <= 50 /\ Q (.bl (if neg then !b else b)) H
theorem jW (hu:X.A.units + 64 < cLine):OpR X (compareOp .Eq) (rEqR X.K false) := by
 intro pins s σ H x y v u Q I rx ry h
 obtain ⟨a,c,n,b,rfl,rfl,e,hn,q⟩ := h
 cases rx
 cases ry
 have fin:∀ {k:Bool},k = b -> EP X pins σ Q (.bool k) s := fun z => ⟨.bl b,H,I,by rw [z]; rfl,q⟩
 cases e with
 | flat fx fy => exact absurd (show false = true from fx) Bool.false_ne_true
 | @tups n _ _ xs ys e ha hb he =>
   obtain ⟨i1,r1,p1,z1⟩ := I.tuple ha
   obtain ⟨i2,r2,p2,z2⟩ := I.tuple hb
   have l1 := r1.length
   have l2 := r2.length
   refine SeqAt.eq_tupleAt (e := e) (show s.heap.IsTuple a i1.toArray from p1) (show s.heap.IsTuple c i2.toArray from p2) (by omega) (fun j h1 h2 => ?_) (fin ?_)
   · have h1':j < i1.length := by simpa using h1
     have h2':j < i2.length := by simpa using h2
     have q := (he j (by omega) (by omega)).at I (A := X.A.in1) (yG r1 h1') (yG r2 h2') (by show X.A.units + 1 + n < cLine; omega)
     simpa using q
   · rw [List.size_toArray,List.size_toArray,<- l1,<- l2]
 | @lsts n _ _ xs ys e ha hb hl he =>
   obtain ⟨i1,r1,p1,z1⟩ := I.list ha
   obtain ⟨i2,r2,p2,z2⟩ := I.list hb
   have l1 := r1.length
   have l2 := r2.length
   refine SeqAt.eq_listAt (e := e) p1.isList p2.isList (by simp; omega) (by omega) (fun j h1 h2 => ?_) (fin ?_)
   · have h1':j < i1.length := by simpa using h1
     have h2':j < i2.length := by simpa using h2
     have q := (he j (by omega)).at I (A := X.A.in1) (yG r1 h1') (yG r2 h2') (by show X.A.units + 1 + n < cLine; omega)
     simpa using q
   · rw [List.size_toArray,<- l1]
 | @lens n _ _ xs ys ha hb hl =>
   obtain ⟨i1,r1,p1,z1⟩ := I.list ha
   obtain ⟨i2,r2,p2,z2⟩ := I.list hb
   have l1 := r1.length
   have l2 := r2.length
   exact SeqAt.eq_list_lengthsAt p1.isList p2.isList (by simp; omega) (by omega) (fin rfl)
theorem zaB (hu:X.A.units + 64 < cLine):OpR X (compareOp .NotEq) (rEqR X.K true) := by
 intro pins s σ H x y v u Q I rx ry h
 obtain ⟨a,c,n,b,rfl,rfl,e,hn,q⟩ := h
 cases rx
 cases ry
 have fin:∀ {k:Bool},k = b -> EP X pins σ Q (.bool (!k)) s := fun z => ⟨.bl (!b),H,I,by rw [z]; rfl,q⟩
 cases e with
 | flat fx fy => exact absurd (show false = true from fx) Bool.false_ne_true
 | @tups n _ _ xs ys e ha hb he =>
   obtain ⟨i1,r1,p1,z1⟩ := I.tuple ha
   obtain ⟨i2,r2,p2,z2⟩ := I.tuple hb
   have l1 := r1.length
   have l2 := r2.length
   refine SeqAt.RcNeAt.tuples (e := e) (show s.heap.IsTuple a i1.toArray from p1) (show s.heap.IsTuple c i2.toArray from p2) (by omega) (fun j h1 h2 => ?_) _ _ _ _ (fin ?_)
   · have h1':j < i1.length := by simpa using h1
     have h2':j < i2.length := by simpa using h2
     have q := (he j (by omega) (by omega)).at I (A := X.A.in1) (yG r1 h1') (yG r2 h2') (by show X.A.units + 1 + n < cLine; omega)
     simpa using q
   · rw [List.size_toArray,List.size_toArray,<- l1,<- l2]
 | @lsts n _ _ xs ys e ha hb hl he =>
   obtain ⟨i1,r1,p1,z1⟩ := I.list ha
   obtain ⟨i2,r2,p2,z2⟩ := I.list hb
   have l1 := r1.length
   have l2 := r2.length
   refine SeqAt.RcNeAt.lists (e := e) p1.isList p2.isList (by simp; omega) (by omega) (fun j h1 h2 => ?_) _ _ _ _ (fin ?_)
   · have h1':j < i1.length := by simpa using h1
     have h2':j < i2.length := by simpa using h2
     have q := (he j (by omega)).at I (A := X.A.in1) (yG r1 h1') (yG r2 h2') (by show X.A.units + 1 + n < cLine; omega)
     simpa using q
   · rw [List.size_toArray,<- l1]
 | @lens n _ _ xs ys ha hb hl =>
   obtain ⟨i1,r1,p1,z1⟩ := I.list ha
   obtain ⟨i2,r2,p2,z2⟩ := I.list hb
   have l1 := r1.length
   have l2 := r2.length
   exact SeqAt.RcNeAt.lists_lengths p1.isList p2.isList (by simp; omega) (by omega) _ _ _ _ (fin (k := false) rfl)
end
end _L2
namespace _L2
open PySem PySem.Spec PyProof.Rows PySem.W
noncomputable def zaC (K:Frag) (sp:Sp) (tl:TE):TE := fun σ H Q => tl σ H fun x H1 =>
 ∃ (l:Addr) (xs:List V) (kz:List (Int × Int)) (B:Int),x = .ref l /\ SqL K H1 l xs /\ 0 < xs.length /\ xs.length < 64 /\ kz.length = xs.length /\ (∀ z ∈ kz,0 <= z.2 /\ z.2 < B) /\
   (∀ (i:Nat) (x:V) (z:Int × Int) (H':Hp) (R:VK),xs[i]? = some x -> kz[i]? = some z -> Same H1 H' -> (∀ p H'',Same H' H'' -> H'' p = some (.tup [.int z.1,.int z.2]) -> R (.ref p) H'') -> sp [x] H' R E0) /\
   ∀ (D:Addr) (p:Array Nat) (H':Hp),Same H1 H' -> H' D = none -> _Srt.Ord xs.length p -> _Srt.Up (yv B kz) p xs.length -> Q (.ref D) (upd H' D (.lst (p.toList.map fun i => xs.getD i .non)))
theorem QU {X:Cx} {l:Expr} {tl:TE} {k:Nat} {x a:Str} {f:Addr} {fd:FuncData} {sp:Sp} {np kpos p pos:Pos} (F:FnOk X.prog X.w X.K X.mg X.base CX0 k f fd [a] sp) (hb:Binds X.K fd [a] []) (hr:Room (k + 2) X.A) (hg:Gl X "sorted") (hm:X.mg "sorted" = none) (hgx:Gl X x) (hmx:X.mg x = some (.ref f)) (hl:PE X l tl)
   (hs:starEach [l] X.env = [(false,eval l X.env)] := by rfl) (hdb:(x == ("__debug__" : Str)) = false := by decide) :
   PE X (.Call (.Name "sorted" p) [l] [⟨some "key",.Name x np,kpos⟩] pos) (zaC X.K sp tl) := by
 intro pins s σ H Q I h
 refine wpAny_Call_Name_kw (xg I hg hm boot_sorted ?_ (by decide) (by decide))
 refine PyProof.Rows.callWith_kw (thn ((za hl zb hs) pos pins s σ H (fun vs H1 => match vs with
   | [x] => ∃ (l:Addr) (xs:List V) (kz:List (Int × Int)) (B:Int),x = .ref l /\ SqL X.K H1 l xs /\ 0 < xs.length /\ xs.length < 64 /\ kz.length = xs.length /\ (∀ z ∈ kz,0 <= z.2 /\ z.2 < B) /\
     (∀ (i:Nat) (x:V) (z:Int × Int) (H':Hp) (R:VK),xs[i]? = some x -> kz[i]? = some z -> Same H1 H' -> (∀ p H'',Same H' H'' -> H'' p = some (.tup [.int z.1,.int z.2]) -> R (.ref p) H'') -> sp [x] H' R E0) /\
     ∀ (D:Addr) (p:Array Nat) (H':Hp),Same H1 H' -> H' D = none -> _Srt.Ord xs.length p -> _Srt.Up (yv B kz) p xs.length -> Q (.ref D) (upd H' D (.lst (p.toList.map fun i => xs.getD i .non)))
   | _ => False) I h) fun us s1 ⟨vs,H1,I1,r1,q1⟩ => ?_) (by rw [hs]; rfl) (by rw [hs]; rfl) rfl rfl
 match vs,q1 with
 | [x],q1 =>
 obtain ⟨u,rfl,ru⟩ := vals1 r1
 refine thn ((Za (nm := some "key") (j9 (v := .ref f) hgx hmx rfl hdb) Yd) pos pins s1 σ H1 (fun ws H2 => ws = [.ref f] /\ H2 = H1) I1 ⟨rfl,rfl⟩) fun us2 s2 h9 => ?_
 obtain ⟨ws,H2,I2,r2,e1,e2⟩ := h9
 subst e1 e2
 obtain ⟨u2,rfl,ru2⟩ := vals1 r2
 obtain ⟨la,xs,kz,B,rfl,hL,h1,h64,hkz,hB,items,q⟩ := q1
 cases (show u = Value.ref la from ru)
 cases (show u2 = Value.ref f from ru2)
 show wpAny _ _ (call (.builtin "sorted") [.ref la] [(Str.ofString "key",.ref f)]) _ _ _
 refine wz I2 hL h1 h64 hkz hB (fun H' => Same H2 H') (Same.refl _) (fun pins' i x v z s' H' hx hz rx I' g' => ?_) fun D p H' s' g' _ hD po pu I' => ⟨.ref D,_,I',rfl,q D p H' g' hD po pu⟩
 have e0:Env0 X.prog X.w X.K X.mg X.base X.A.in1.in1 X.stack s' H' := ⟨I'.ok.frames,I'.ok.mod,I'.bs,Nat.le_trans I'.ok.bsz I'.sz,I'.stack,I'.stkFree,I'.hok,I'.bare⟩
 have hsp := items i x z H' (fun v H'' => ∃ p',v = .ref p' /\ Same H' H'' /\ H'' p' = some (.tup [.int z.1,.int z.2])) hx hz g' fun p H'' S'' h'' => ⟨p,rfl,S'',h''⟩
 refine wpAny_call (codeAny_mono (F.run X.A.in1.in1 X.stack s' H' ⟨[v],[]⟩ [v] [x] _ _ hr.in1.in1 e0 (by simpa using hb s' [v] I'.kIn rfl) (.cons rx .nil) hsp) fun r s'' hq => ?_)
 cases r with
 | error e => exact False.elim hq
 | ok fl =>
   cases fl with
   | next => exact False.elim hq
   | brk => exact False.elim hq
   | cont => exact False.elim hq
   | ret u =>
     obtain ⟨v',H'',I'',r'',p',e,S',h'⟩ := I'.after hq
     subst e
     cases (show u = Value.ref p' from r'')
     exact ⟨p',H'',rfl,I'',g'.trans S',S',h'⟩
end _L2
namespace _L2
open PySem PySem.Spec PyProof.Rows
section
variable {g:TG} {tc:TT} {te:TE} {σ0:St} {H0:Hp} {R:List V -> Hp -> Prop} {K:PySem.W.Frag} {a:Addr} {xs:List V}
theorem jl {J:It} {n:Nat} (Pv:Nat -> List V -> St -> Hp -> Prop) (h0:Pv 0 [] σ0 H0) (hz:∀ i ys σ H,i <= n -> Pv i ys σ H -> ys.length <= sizeLine) (hst:∀ ys σ H,Pv n ys σ H -> J.stop n H /\ R ys H)
   (hgo:∀ i ys σ H,i < n -> Pv i ys σ H -> J.go i H /\ ∀ x H2,J.yld i H x H2 -> g x σ H2 fun σ2 H3 => tc σ2 H3 fun b H4 => if b = true then te σ2 H4 fun y H5 => Pv (i + 1) (ys ++ [y]) σ2 H5 else Pv (i + 1) ys σ2 H4) :
   ∃ W:Nat -> Nat -> List V -> St -> Hp -> Prop,(∃ m,W 0 m [] σ0 H0) /\ ∀ i m ys σ' H',W i m ys σ' H' ->
     (J.stop i H' /\ ys.length <= sizeLine /\ R ys H') \/
     (J.go i H' /\ ys.length <= sizeLine /\ ∃ N:List V -> St -> Hp -> Prop,(∀ ys' σ2 H2,N ys' σ2 H2 -> ∃ m',m' < m /\ W (i + 1) m' ys' σ2 H2) /\
       ∀ x H2,J.yld i H' x H2 -> g x σ' H2 fun σ2 H3 => tc σ2 H3 fun b H4 => if b = true then te σ2 H4 fun y H5 => N (ys ++ [y]) σ2 H5 else N ys σ2 H4) := by
 refine ⟨fun i m ys σ H => m = n - i /\ i <= n /\ Pv i ys σ H,⟨n,by simp,Nat.zero_le _,h0⟩,?_⟩
 rintro i m ys σ H ⟨rfl,hi,p⟩
 by_cases hlt:i < n
 · obtain ⟨go,turn⟩ := hgo i ys σ H hlt p
   exact .inr ⟨go,hz i ys σ H hi p,Pv (i + 1),fun ys' σ' H' p' => ⟨n - (i + 1),by omega,rfl,hlt,p'⟩,turn⟩
 · have e:i = n := by omega
   subst e
   obtain ⟨st,r⟩ := hst ys σ H p
   exact .inl ⟨st,hz i ys σ H hi p,r⟩
theorem yI (Pv:Nat -> List V -> St -> Hp -> Prop) (h0:Pv 0 [] σ0 H0) (hz:∀ i ys σ H,i <= xs.length -> Pv i ys σ H -> ys.length <= sizeLine /\ SqL K H a xs) (hst:∀ ys σ H,Pv xs.length ys σ H -> R ys H)
   (hgo:∀ i x ys σ H,xs[i]? = some x -> Pv i ys σ H -> g x σ H fun σ2 H3 => tc σ2 H3 fun b H4 => if b = true then te σ2 H4 fun y H5 => Pv (i + 1) (ys ++ [y]) σ2 H5 else Pv (i + 1) ys σ2 H4) :
   ∃ W:Nat -> Nat -> List V -> St -> Hp -> Prop,(∃ m,W 0 m [] σ0 H0) /\ ∀ i m ys σ' H',W i m ys σ' H' ->
     ((Itl K a).stop i H' /\ ys.length <= sizeLine /\ R ys H') \/
     ((Itl K a).go i H' /\ ys.length <= sizeLine /\ ∃ N:List V -> St -> Hp -> Prop,(∀ ys' σ2 H2,N ys' σ2 H2 -> ∃ m',m' < m /\ W (i + 1) m' ys' σ2 H2) /\
       ∀ x H2,(Itl K a).yld i H' x H2 -> g x σ' H2 fun σ2 H3 => tc σ2 H3 fun b H4 => if b = true then te σ2 H4 fun y H5 => N (ys ++ [y]) σ2 H5 else N ys σ2 H4) :=
 jl (n := xs.length) Pv h0 (fun i ys σ H hi p => (hz i ys σ H hi p).1) (fun ys σ H p => ⟨⟨xs,(hz _ ys σ H (Nat.le_refl _) p).2,Nat.le_refl _⟩,hst ys σ H p⟩)
   fun i ys σ H hi p => ⟨⟨xs,xs[i],(hz i ys σ H (Nat.le_of_lt hi) p).2,by simp [hi]⟩,fun x H2 y => by
     obtain ⟨e,y⟩ := y
     subst e
     exact hgo i x ys σ _ (y xs (hz i ys σ _ (Nat.le_of_lt hi) p).2) p⟩
theorem JB (Pv:Nat -> List V -> St -> Hp -> Prop) (h0:Pv 0 [] σ0 H0) (hz:∀ i ys σ H,i <= xs.length -> Pv i ys σ H -> ys.length <= sizeLine /\ SqT K H a xs) (hst:∀ ys σ H,Pv xs.length ys σ H -> R ys H)
   (hgo:∀ i x ys σ H,xs[i]? = some x -> Pv i ys σ H -> g x σ H fun σ2 H3 => tc σ2 H3 fun b H4 => if b = true then te σ2 H4 fun y H5 => Pv (i + 1) (ys ++ [y]) σ2 H5 else Pv (i + 1) ys σ2 H4) :
   ∃ W:Nat -> Nat -> List V -> St -> Hp -> Prop,(∃ m,W 0 m [] σ0 H0) /\ ∀ i m ys σ' H',W i m ys σ' H' ->
     ((Itt K a).stop i H' /\ ys.length <= sizeLine /\ R ys H') \/
     ((Itt K a).go i H' /\ ys.length <= sizeLine /\ ∃ N:List V -> St -> Hp -> Prop,(∀ ys' σ2 H2,N ys' σ2 H2 -> ∃ m',m' < m /\ W (i + 1) m' ys' σ2 H2) /\
       ∀ x H2,(Itt K a).yld i H' x H2 -> g x σ' H2 fun σ2 H3 => tc σ2 H3 fun b H4 => if b = true then te σ2 H4 fun y H5 => N (ys ++ [y]) σ2 H5 else N ys σ2 H4) :=
 jl (n := xs.length) Pv h0 (fun i ys σ H hi p => (hz i ys σ H hi p).1) (fun ys σ H p => ⟨⟨xs,(hz _ ys σ H (Nat.le_refl _) p).2,Nat.le_refl _⟩,hst ys σ H p⟩)
   fun i ys σ H hi p => ⟨⟨xs,xs[i],(hz i ys σ H (Nat.le_of_lt hi) p).2,by simp [hi]⟩,fun x H2 y => by
     obtain ⟨e,y⟩ := y
     subst e
     exact hgo i x ys σ _ (y xs (hz i ys σ _ (Nat.le_of_lt hi) p).2) p⟩
theorem ZQ {lo:Int} {n:Nat} (Pv:Nat -> List V -> St -> Hp -> Prop) (h0:Pv 0 [] σ0 H0) (hz:∀ i ys σ H,i <= n -> Pv i ys σ H -> ys.length <= sizeLine) (hst:∀ ys σ H,Pv n ys σ H -> R ys H)
   (hgo:∀ i ys σ H,i < n -> Pv i ys σ H -> g (.int (lo + i)) σ H fun σ2 H3 => tc σ2 H3 fun b H4 => if b = true then te σ2 H4 fun y H5 => Pv (i + 1) (ys ++ [y]) σ2 H5 else Pv (i + 1) ys σ2 H4) :
   ∃ W:Nat -> Nat -> List V -> St -> Hp -> Prop,(∃ m,W 0 m [] σ0 H0) /\ ∀ i m ys σ' H',W i m ys σ' H' ->
     ((Itr lo n).stop i H' /\ ys.length <= sizeLine /\ R ys H') \/
     ((Itr lo n).go i H' /\ ys.length <= sizeLine /\ ∃ N:List V -> St -> Hp -> Prop,(∀ ys' σ2 H2,N ys' σ2 H2 -> ∃ m',m' < m /\ W (i + 1) m' ys' σ2 H2) /\
       ∀ x H2,(Itr lo n).yld i H' x H2 -> g x σ' H2 fun σ2 H3 => tc σ2 H3 fun b H4 => if b = true then te σ2 H4 fun y H5 => N (ys ++ [y]) σ2 H5 else N ys σ2 H4) :=
 jl (n := n) Pv h0 hz (fun ys σ H p => ⟨Nat.le_refl _,hst ys σ H p⟩) fun i ys σ H hi p => ⟨hi,fun x H2 y => by
   obtain ⟨e,y⟩ := y
   subst e y
   exact hgo i ys σ _ hi p⟩
end
end _L2
namespace _Til
noncomputable def sumN (f:Nat -> Int):Nat -> Int
 | 0 => 0
 | n + 1 => sumN f n + f n
theorem yj {f g:Nat -> Int}:∀ n,(∀ i,i < n -> f i = g i) -> sumN f n = sumN g n
 | 0,_ => rfl
 | n + 1,h => by
   show sumN f n + f n = sumN g n + g n
   rw [yj n fun i hi => h i (Nat.lt_succ_of_lt hi),h n (Nat.lt_succ_self n)]
theorem jF (f g:Nat -> Int):∀ n,sumN (fun i => f i + g i) n = sumN f n + sumN g n
 | 0 => rfl
 | n + 1 => by
   show sumN _ n + (f n + g n) = (sumN f n + f n) + (sumN g n + g n)
   rw [jF f g n]
   omega
theorem xq (c:Int):∀ n:Nat,sumN (fun _ => c) n = n * c
 | 0 => by show (0:Int) = (0:Nat) * c; simp
 | n + 1 => by
   show sumN _ n + c = _
   rw [xq c n,Int.natCast_add,Int.add_mul]
   simp
theorem Zm {f g:Nat -> Int}:∀ n,(∀ i,i < n -> f i <= g i) -> sumN f n <= sumN g n
 | 0,_ => Int.le_refl _
 | n + 1,h => by
   show sumN f n + f n <= sumN g n + g n
   have a := Zm n fun i hi => h i (Nat.lt_succ_of_lt hi)
   have b := h n (Nat.lt_succ_self n)
   omega
theorem wa {f g:Nat -> Int}:∀ n,(∀ i,i < n -> f i <= g i) -> sumN f n = sumN g n -> ∀ i,i < n -> f i = g i
 | 0,_,_,i,hi => absurd hi (Nat.not_lt_zero _)
 | n + 1,h,e,i,hi => by
   have e:sumN f n + f n = sumN g n + g n := e
   have a := Zm n fun i hi => h i (Nat.lt_succ_of_lt hi)
   have b := h n (Nat.lt_succ_self n)
   by_cases hn:i = n
   · subst hn; omega
   · exact wa n (fun i hi => h i (Nat.lt_succ_of_lt hi)) (by omega) i (by omega)
theorem qJ (a b:Int):∀ n:Nat,0 <= a -> a <= b -> sumN (fun i => if a <= (i:Int) /\ (i:Int) < b then 1 else 0) n = min b n - min a n
 | 0,h1,h2 => by show (0:Int) = _; simp; omega
 | n + 1,h1,h2 => by
   show sumN _ n + (if a <= (n:Int) /\ (n:Int) < b then 1 else 0) = _
   rw [qJ a b n h1 h2]
   split <;> omega
theorem ZR (f:Nat -> Int) (c:Int):∀ n,sumN (fun i => f i * c) n = sumN f n * c
 | 0 => by show (0:Int) = 0 * c; simp
 | n + 1 => by
   show sumN _ n + f n * c = (sumN f n + f n) * c
   rw [ZR f c n,Int.add_mul]
noncomputable def area (b:Bx):Int := (b.r - b.l) * (b.b - b.t)
noncomputable def dbl (f:Int -> Int -> Int) (W G:Nat):Int := sumN (fun y => sumN (fun x => f x y) W) G
theorem JC {W G:Nat} {b:Bx} (o:Ok W G b):dbl (fun x y => ((inB b x y).toNat:Int)) W G = area b := by
 obtain ⟨a1,a2,a3,a4,a5,a6⟩ := o
 have row:∀ y:Nat,sumN (fun x => (((inB b x y).toNat:Nat):Int)) W = (if b.t <= (y:Int) /\ (y:Int) < b.b then 1 else 0) * (b.r - b.l) := by
   intro y
   by_cases hy:b.t <= (y:Int) /\ (y:Int) < b.b
   · rw [if_pos hy,Int.one_mul]
     have := qJ b.l b.r W a1 (by omega)
     rw [<- yj (f := fun x => (((inB b x y).toNat:Nat):Int)) W fun i hi => ?_] at this
     · rw [this]; omega
     · show _ = _
       rw [wU]
       by_cases hx:b.l <= (i:Int) /\ (i:Int) < b.r
       · rw [if_pos ⟨hx.1,hx.2,hy.1,hy.2⟩,if_pos hx]; rfl
       · rw [if_neg (fun z => hx ⟨z.1,z.2.1⟩),if_neg hx]; rfl
   · rw [if_neg hy,Int.zero_mul]
     have := xq 0 W
     rw [Int.mul_zero] at this
     rw [<- this]
     refine yj W fun i hi => ?_
     rw [wU,if_neg (fun z => hy ⟨z.2.2.1,z.2.2.2⟩)]
     rfl
 unfold dbl
 rw [yj G fun y _ => row y,ZR,qJ b.t b.b G a4 (by omega)]
 unfold area
 rw [Int.mul_comm]
 congr 1
 omega
theorem JD (f g:Int -> Int -> Int) (W G:Nat):dbl (fun x y => f x y + g x y) W G = dbl f W G + dbl g W G := by
 unfold dbl
 rw [<- jF]
 exact yj G fun y _ => jF _ _ W
theorem qK {W G:Nat}:∀ {bs:List Bx},(∀ b ∈ bs,Ok W G b) -> (bs.map area).sum = dbl (fun x y => (cnt bs x y:Int)) W G
 | [],_ => by
   show (0:Int) = _
   unfold dbl
   have e:∀ y:Nat,sumN (fun x => ((cnt [] x y:Nat):Int)) W = 0 := fun y => by
     have := xq 0 W
     rw [Int.mul_zero] at this
     exact this
   rw [yj G fun y _ => e y,xq,Int.mul_zero]
 | b :: bs,h => by
   rw [List.map_cons,List.sum_cons,qK fun c hc => h c (List.mem_cons_of_mem _ hc),<- JC (h b List.mem_cons_self),<- JD]
   unfold dbl
   refine yj G fun y _ => yj W fun x _ => ?_
   show ((inB b x y).toNat:Int) + (cnt bs x y:Int) = ((cnt (b :: bs) x y:Nat):Int)
   rw [cnt_cons]
   omega
theorem dbl_one (W G:Nat):dbl (fun _ _ => 1) W G = W * G := by
 unfold dbl
 rw [yj G fun y _ => xq 1 W,xq,Int.mul_one,Int.mul_comm]
theorem Z4 {bs:List Bx} {W G:Nat} (T:z0 bs W G):(bs.map area).sum = W * G := by
 rw [qK T.wf,<- dbl_one]
 unfold dbl
 refine yj G fun y hy => yj W fun x hx => ?_
 show ((cnt bs x y:Nat):Int) = 1
 rw [T.one x y (by omega) (by omega) (by omega) (by omega)]
 rfl
theorem Z5 {bs:List Bx} {W G:Nat} (wf:∀ b ∈ bs,Ok W G b) (one:∀ x y,cnt bs x y <= 1) (h:(bs.map area).sum = W * G):z0 bs W G := by
 refine ⟨wf,fun x y x1 x2 y1 y2 => ?_⟩
 rw [qK wf,<- dbl_one] at h
 have r := wa G (fun y _ => Zm W fun x _ => by have := one x y; show ((cnt bs x y:Nat):Int) <= 1; omega) h y.toNat (by omega)
 have q := wa W (fun x _ => by have := one x y.toNat; show ((cnt bs x y.toNat:Nat):Int) <= 1; omega) r x.toNat (by omega)
 have q:((cnt bs x.toNat y.toNat:Nat):Int) = 1 := q
 rw [Int.toNat_of_nonneg x1,Int.toNat_of_nonneg y1] at q
 omega
noncomputable def lap (b c:Bx):Bool := (decide (b.l < c.r) && decide (c.l < b.r)) && (decide (b.t < c.b) && decide (c.t < b.b))
theorem zaD {b c:Bx} {x y:Int} (h1:inB b x y = true) (h2:inB c x y = true):lap b c = true := by
 have h1 := zT.mp h1
 have h2 := zT.mp h2
 unfold lap
 simp only [Bool.and_eq_true,decide_eq_true_eq]
 omega
theorem jX:∀ {bs:List Bx},bs.Pairwise (fun b c => lap b c = false) -> ∀ x y,cnt bs x y <= 1
 | [],_,x,y => Nat.zero_le _
 | b :: bs,h,x,y => by
   rw [List.pairwise_cons] at h
   rw [cnt_cons]
   have ih := jX h.2 x y
   by_cases hb:inB b x y = true
   · have z:cnt bs x y = 0 := by
       unfold cnt
       rw [List.countP_eq_zero]
       intro c hc e
       have z := h.1 c hc
       rw [zaD hb e] at z
       cases z
     rw [z,hb]
     decide
   · rw [Bool.eq_false_iff.mpr hb]
     simpa using ih
theorem Xg {bs:List Bx} {n m:Int} (T:z0 bs n m):bs.Pairwise (fun b c => lap b c = false) := by
 rw [List.pairwise_iff_getElem]
 intro i j hi hj hij
 have ap := T.apart (List.getElem?_eq_getElem hi) (List.getElem?_eq_getElem hj) (by omega)
 rw [Bool.eq_false_iff]
 intro z
 unfold lap at z
 simp only [Bool.and_eq_true,decide_eq_true_eq] at z
 omega
structure Page (W G:Int) (bs:List Bx):Prop where
 w:1 <= W
 g:1 <= G
 n1:1 <= bs.length
 n24:bs.length <= 24
 wf:∀ b ∈ bs,b.l < b.r /\ b.t < b.b
 within:∀ b ∈ bs,0 <= b.l /\ b.r <= W /\ 0 <= b.t /\ b.b <= G
 apart:bs.Pairwise (fun b c => lap b c = false)
 full:(bs.map area).sum = W * G
theorem Page.tiles {W G:Int} {bs:List Bx} (p:Page W G bs):z0 bs W G := by
 obtain ⟨w,hw⟩ := Int.eq_ofNat_of_zero_le (show 0 <= W by have := p.w; omega)
 obtain ⟨g,hg⟩ := Int.eq_ofNat_of_zero_le (show 0 <= G by have := p.g; omega)
 subst hw hg
 exact Z5 (fun b hb => by
   have a := p.wf b hb
   have c := p.within b hb
   exact ⟨c.1,a.1,c.2.1,c.2.2.1,a.2,c.2.2.2⟩) (jX p.apart) p.full
theorem qw {W G:Int} {bs:List Bx} (T:z0 bs W G) (hw:1 <= W) (hg:1 <= G) (hl:bs.length <= 24):Page W G bs := by
 have pos:1 <= bs.length := by
   cases bs with
   | nil => have q := T.one 0 0 (by omega) (by omega) (by omega) (by omega); cases q
   | cons b bs => exact Nat.succ_pos _
 refine ⟨hw,hg,pos,hl,fun b hb => ⟨(T.wf b hb).h1,(T.wf b hb).v1⟩,fun b hb => ⟨(T.wf b hb).h0,(T.wf b hb).h2,(T.wf b hb).v0,(T.wf b hb).v2⟩,Xg T,?_⟩
 obtain ⟨w,hw'⟩ := Int.eq_ofNat_of_zero_le (show 0 <= W by omega)
 obtain ⟨g,hg'⟩ := Int.eq_ofNat_of_zero_le (show 0 <= G by omega)
 subst hw' hg'
 exact Z4 T
end _Til
namespace _L2
open PySem
theorem xJ {X:Cx} {x:Str} {C:Addr} {pos:Pos} (hg:Gl X x) (hm:X.mg x = some (.ref C)) (hd:(x == ("__debug__" : Str)) = false := by decide):PE X (.Name x pos) (tC (.ref C)) := j9 hg hm rfl hd
theorem x8 {X:Cx} {x:Str} {T:String} {pos:Pos} (hg:Gl X x) (hm:X.mg x = none) (hv:bootBuiltins x = some (.type T)) (hn:x ≠ "__name__" := by decide) (hd:(x == ("__debug__" : Str)) = false := by decide):PE X (.Name x pos) (tC (.ty T)) := Jo hg hm hv rfl hn hd
end _L2
namespace _K4
open PySem _L2 _Til
structure Nm (K:PySem.W.Frag) (mg:Str -> Option Value):Prop where
 gLEFT:GI mg "LEFT" 0
 gTOP:GI mg "TOP" 1
 gRIGHT:GI mg "RIGHT" 2
 gBELOW:GI mg "BELOW" 3
 gMOST:GI mg "MOST_BOXES" 24
 ti:mg "isinstance" = none
 tint:mg "int" = none
 tbool:mg "bool" = none
 ttup:mg "tuple" = none
 tlist:mg "list" = none
 tl:mg "len" = none
 tall:mg "all" = none
 tany:mg "any" = none
 tsum:mg "sum" = none
 ts:mg "sorted" = none
 te:mg "enumerate" = none
 ib:PySem.W.kitOne K (.type "int") (.type "bool") = some false
 tt:PySem.W.kitOne K (.type "int") (.type "tuple") = some false
 ki:∀ T,T ∈ ["NoneType","str","list","tuple","dict"] -> PySem.W.kitOne K (.type T) (.type "int") = some false
 kb:PySem.W.kitOne K (.type "bool") (.type "int") = some true
 kt:∀ T,T ∈ ["NoneType","bool","str","list","dict"] -> PySem.W.kitOne K (.type T) (.type "tuple") = some false
inductive Odd (H:Hp):V -> String -> Prop where
 | non:Odd H .non "NoneType"
 | bl (b:Bool):Odd H (.bl b) "bool"
 | str (x:Str):Odd H (.str x) "str"
 | lst {a:Addr} {xs:List V} (h:H a = some (.lst xs)):Odd H (.ref a) "list"
 | tup {a:Addr} {xs:List V} (h:H a = some (.tup xs)):Odd H (.ref a) "tuple"
 | dK {a:Addr} {kvs:List (Key × V)} (h:H a = some (.dK kvs)):Odd H (.ref a) "dict"
theorem Odd.ty {K:PySem.W.Frag} {H:Hp} {v:V} {T:String} (h:Odd H v T):TyX K H v (.type T) := by
 cases h with
 | non => exact .of .non
 | bl b => exact .of (.bl b)
 | str x => exact .of (.str x)
 | lst h => exact .of (.lst h)
 | tup h => exact .of (.tup h)
 | dK h => exact .of (.dK h)
theorem Odd.same {H H':Hp} (S:Same H H') {v:V} {T:String} (h:Odd H v T):Odd H' v T := by
 cases h with
 | non => exact .non
 | bl b => exact .bl b
 | str x => exact .str x
 | lst h => exact .lst (S _ _ h)
 | tup h => exact .tup (S _ _ h)
 | dK h => exact .dK (S _ _ h)
inductive xt (H:Hp):V -> Option Int -> Prop where
 | num (i:Int):xt H (.int i) (some i)
 | odd {v:V} {T:String} (h:Odd H v T):xt H v none
theorem xt.same {H H':Hp} (S:Same H H') {v:V} {o:Option Int} (h:xt H v o):xt H' v o := by
 cases h with
 | num i => exact .num i
 | odd h => exact .odd (h.same S)
inductive ThAt (H:Hp):V -> Option Bx -> Prop where
 | box {v:V} {b:Bx} (h:yR H v b):ThAt H v (some b)
 | num (i:Int):ThAt H (.int i) none
 | odd {v:V} {T:String} (h:Odd H v T) (ne:T ≠ "tuple"):ThAt H v none
 | len {p:Addr} {ts:List V} (h:H p = some (.tup ts)) (ne:ts.length ≠ 4):ThAt H (.ref p) none
 | four {p:Addr} {ts:List V} {os:List (Option Int)} (h:H p = some (.tup ts)) (hl:ts.length = 4) (ho:Paired (xt H) ts os) (bad:none ∈ os):ThAt H (.ref p) none
theorem NumsAt.same {H H':Hp} (S:Same H H'):∀ {ts:List V} {os:List (Option Int)},Paired (xt H) ts os -> Paired (xt H') ts os
 | _,_,.nil => .nil
 | _,_,.cons h t => .cons (h.same S) (NumsAt.same S t)
theorem ThAt.same {H H':Hp} (S:Same H H') {v:V} {o:Option Bx} (h:ThAt H v o):ThAt H' v o := by
 cases h with
 | box h => exact .box (h.same S)
 | num i => exact .num i
 | odd h ne => exact .odd (h.same S) ne
 | len h ne => exact .len (S _ _ h) ne
 | four h hl ho bad => exact .four (S _ _ h) hl (NumsAt.same S ho) bad
noncomputable def qo (H:Hp):List V -> List (Option Bx) -> Prop := Paired (ThAt H)
theorem qo.len {H:Hp} {vs:List V} {ps:List (Option Bx)} (h:qo H vs ps):vs.length = ps.length := Paired.length h
theorem qp {α:Type} {R:V -> α -> Prop}:∀ {vs:List V} {rs:List α} {i:Nat} {p:α},Paired R vs rs -> rs[i]? = some p -> ∃ v,vs[i]? = some v /\ R v p
 | _,_,_,_,.nil,e => by simp at e
 | _,_,0,_,.cons r _,e => by simp at e; subst e; exact ⟨_,rfl,r⟩
 | _,_,i + 1,p,.cons _ t,e => by
   obtain ⟨v,h1,h2⟩ := qp (i := i) (p := p) t (by simpa using e)
   exact ⟨v,by simpa using h1,h2⟩
noncomputable def lenO:Option Int -> Bool
 | some i => decide (1 <= i)
 | none => false
noncomputable def jm:Sp := fun vs H Q _ => ∃ (v:V) (o:Option Int),vs = [v] /\ xt H v o /\ Q (.bl o.isSome) H
noncomputable def jG:Sp := fun vs H Q _ => ∃ (v:V) (o:Option Int),vs = [v] /\ xt H v o /\ Q (.bl (lenO o)) H
noncomputable def boxB (b:Bx):Bool := decide (b.l < b.r) && decide (b.t < b.b)
noncomputable def boxO:Option Bx -> Bool
 | some b => boxB b
 | none => false
noncomputable def XW:Sp := fun vs H Q _ => ∃ (v:V) (o:Option Bx),vs = [v] /\ ThAt H v o /\ ∀ H',Same H H' -> Q (.bl (boxO o)) H'
noncomputable def XX:Sp := fun vs H Q _ => ∃ (l:Addr) (us:List V) (bs:List (Option Bx)),vs = [.ref l] /\ H l = some (.lst us) /\ qo H us bs /\ bs.length <= 1000 /\
 ∀ H',Same H H' -> Q (.bl (decide (1 <= bs.length) && decide (bs.length <= 24) && bs.all boxO)) H'
noncomputable def yL (b:Bx) (W G:Int):Bool := decide (0 <= b.l) && (decide (b.r <= W) && (decide (0 <= b.t) && decide (b.b <= G)))
noncomputable def jH:Sp := fun vs H Q _ => ∃ (v:V) (b:Bx) (W G:Int),vs = [v,.int W,.int G] /\ yR H v b /\ Q (.bl (yL b W G)) H
noncomputable def qL:Sp := fun vs H Q _ => ∃ (v u:V) (b c:Bx),vs = [v,u] /\ yR H v b /\ yR H u c /\ Q (.bl (lap b c)) H
noncomputable def XY:Sp := fun vs H Q _ => ∃ (l:Addr) (us:List V) (bs:List Bx),vs = [.ref l] /\ H l = some (.lst us) /\ zm H us bs /\ bs.length <= 1000 /\
 (bs.Pairwise (fun b c => lap b c = false) -> ∀ H',Same H H' -> Q (.bl false) H') /\ (¬ bs.Pairwise (fun b c => lap b c = false) -> ∀ H',Same H H' -> Q (.bl true) H')
noncomputable def YB:Sp := fun vs H Q _ => ∃ (v:V) (b:Bx),vs = [v] /\ yR H v b /\ (-(2 ^ 64) < b.r - b.l /\ b.r - b.l < 2 ^ 64) /\ Q (.int (area b)) H
noncomputable def Fills (bs:List Bx) (W G:Int):Prop := (∀ b ∈ bs,0 <= b.l /\ b.r <= W /\ 0 <= b.t /\ b.b <= G) /\ bs.Pairwise (fun b c => lap b c = false) /\ (bs.map area).sum = W * G
noncomputable def YC:Sp := fun vs H Q _ => ∃ (l:Addr) (us:List V) (bs:List Bx) (W G:Int),vs = [.ref l,.int W,.int G] /\ H l = some (.lst us) /\ zm H us bs /\ bs.length <= 24 /\ (∀ b ∈ bs,b.l < b.r /\ b.t < b.b) /\ 1 <= W /\ W <= 2 ^ 28 /\ 1 <= G /\ G <= 2 ^ 28 /\
 (Fills bs W G -> ∀ H',Same H H' -> Q (.bl true) H') /\ (¬ Fills bs W G -> ∀ H',Same H H' -> Q (.bl false) H')
noncomputable def XZ:Sp := fun vs H Q _ => ∃ (v:V) (b:Bx),vs = [v] /\ yR H v b /\ ∀ p H',Same H H' -> H' p = some (.tup [.int b.t,.int b.l]) -> Q (.ref p) H'
noncomputable def Jm (ow og:Option Int) (os:List (Option Bx)):Prop := ∃ W G bs,ow = some W /\ og = some G /\ os = bs.map some /\ Page W G bs
noncomputable def YD (C:Addr):Sp := fun vs H Q E => ∃ (v u:V) (ow og:Option Int) (l:Addr) (us:List V) (os:List (Option Bx)),vs = [v,u,.ref l] /\ xt H v ow /\ xt H u og /\ H l = some (.lst us) /\ qo H us os /\ os.length <= 1000 /\ (∀ W,ow = some W -> W <= 2 ^ 28) /\ (∀ G,og = some G -> G <= 2 ^ 28) /\
 (∀ W G bs,ow = some W -> og = some G -> os = bs.map some -> Page W G bs -> ∀ (pg:Addr) (cs:List Bx) (H':Hp),Same H H' -> xY H' pg W G cs -> cs.Perm bs -> cs.Pairwise TL -> Q (.ref pg) H') /\ (¬ Jm ow og os -> ∀ H',Same H H' -> E (.ref C) none H')
theorem wm {α:Type} (f:α -> Bool) {bs:List α} {i:Nat} {b:α} (h:bs[i]? = some b):(bs.take i).map (fun b => V.bl (f b)) ++ [.bl (f b)] = (bs.take (i + 1)).map (fun b => V.bl (f b)) := by
 obtain ⟨hi,e⟩ := List.getElem?_eq_some_iff.mp h
 rw [<- List.take_append_getElem hi,List.map_append,e]
 rfl
theorem WX {α:Type} (f:α -> Int) {bs:List α} {i:Nat} {b:α} (h:bs[i]? = some b):(bs.take i).map (fun b => V.int (f b)) ++ [.int (f b)] = (bs.take (i + 1)).map (fun b => V.int (f b)) := by
 obtain ⟨hi,e⟩ := List.getElem?_eq_some_iff.mp h
 rw [<- List.take_append_getElem hi,List.map_append,e]
 rfl
section
variable {P:Program} {w:World} {K:PySem.W.Frag} {mg:Str -> Option Value} {base:Heap}
theorem JE:zC ["thing"] ["thing"] (zl wY) := ⟨rfl,rfl,rfl,by decide +kernel,rfl,by decide +kernel,by decide +kernel⟩
theorem QV {f:Addr} {fd:FuncData} (F:Fun K "is_whole" "is_whole" wY f fd) (Z:Nm K mg):FnOk P w K mg base CX0 1 f fd ["thing"] jm := by
 obtain ⟨gLEFT,gTOP,gRIGHT,gBELOW,gMOST_BOXES,ti,tint,tbool,ttup,tlist,tl,tall,tany,tsum,ts,te,ib,tt,ki,kb,kt⟩ := Z
 refine F.ok JE (fun vs H Q E h => ?_) (fun cdv A outer s H vs Q E hr h => ?_)
 · obtain ⟨v,o,rfl,_⟩ := h
   rfl
 · obtain ⟨v,o,rfl,hv,q⟩ := h
   refine ⟨_,(zh (zw (yO (zo xA (by rfl) ti PyProof.Rows.boot_isinstance (za (pv 0) (za (x8 rfl tint PyProof.Rows.boot_int) zb))) (xv (zai (zo xA (by rfl) ti PyProof.Rows.boot_isinstance (za (pv 0) (za (x8 rfl tbool PyProof.Rows.boot_bool) zb)))))))),?_⟩
   cases hv with
   | num i =>
     refine ⟨_,rfl,_,_,_,_,rfl,rfl,.of (.int _),rfl,_,rfl,iteT ?_⟩
     exact ⟨_,rfl,_,_,_,_,rfl,rfl,.of (.int _),ib,_,rfl,q⟩
   | @odd v T h =>
     by_cases hb:T = "bool"
     · subst hb
       refine ⟨_,rfl,_,_,_,_,rfl,rfl,h.ty,kb,_,rfl,iteT ?_⟩
       exact ⟨_,rfl,_,_,_,_,rfl,rfl,h.ty,rfl,_,rfl,q⟩
     · have m:T ∈ ["NoneType","str","list","tuple","dict"] := by
         cases h with
         | bl b => exact absurd rfl hb
         | non => decide
         | str x => decide
         | lst h => decide
         | tup h => decide
         | dK h => decide
       exact ⟨_,rfl,_,_,_,_,rfl,rfl,h.ty,ki T m,_,rfl,iteF q⟩
theorem QW:zC ["thing"] ["thing"] (zl wq) := ⟨rfl,rfl,rfl,by decide +kernel,rfl,by decide +kernel,by decide +kernel⟩
theorem WY {f fW:Addr} {fd fdW:FuncData} (F:Fun K "is_length" "is_length" wq f fd) (Wo:Callee P w K mg base CX0 1 "is_whole" fW fdW ["thing"] jm):FnOk P w K mg base CX0 2 f fd ["thing"] jG := by
 refine F.ok QW (fun vs H Q E h => ?_) (fun cdv A outer s H vs Q E hr h => ?_)
 · obtain ⟨v,o,rfl,_⟩ := h
   rfl
 · obtain ⟨v,o,rfl,hv,q⟩ := h
   refine ⟨_,(zh (zw (yO (zF Wo.ok hr rfl Wo.bound Wo.kp Wo.bd .nil zV (za (pv 0) zb)) (xv (ye za1 (pv 0) ze (zr _)))))),?_⟩
   refine ⟨_,rfl,v,o,rfl,hv,?_⟩
   cases hv with
   | num i => exact ⟨_,rfl,iteT ⟨_,rfl,_,_,rfl,rfl,q⟩⟩
   | odd h => exact ⟨_,rfl,iteF q⟩
theorem za9:zC ["thing"] ["thing"] (zl sBox) := ⟨rfl,rfl,rfl,by decide +kernel,rfl,by decide +kernel,by decide +kernel⟩
theorem zaE {f fW:Addr} {fd fdW:FuncData} (F:Fun K "is_box" "is_box" sBox f fd) (Z:Nm K mg) (Wo:Callee P w K mg base CX0 1 "is_whole" fW fdW ["thing"] jm):FnOk P w K mg base CX0 2 f fd ["thing"] XW := by
 obtain ⟨gLEFT,gTOP,gRIGHT,gBELOW,gMOST_BOXES,ti,tint,tbool,ttup,tlist,tl,tall,tany,tsum,ts,te,ib,tt,ki,kb,kt⟩ := Z
 refine F.ok za9 (fun vs H Q E h => ?_) (fun cdv A outer s H vs Q E hr h => ?_)
 · obtain ⟨v,o,rfl,_⟩ := h
   rfl
 · obtain ⟨v,o,rfl,hv,q⟩ := h
   refine ⟨_,(zg (zU (PW.pt (xy (yz (yu (zo xA (by rfl) ti PyProof.Rows.boot_isinstance (za (pv 0) (za (x8 rfl ttup PyProof.Rows.boot_tuple) zb))))) (xh (zu Z7 (zo zI (by rfl) tl PySem.boot_len (za (pv 0) zb)) ze (zr _)))))
     (zh (zw yT))
     zO)
     (zg (zU (yz (yu (zo (xZ rfl) (by rfl) tall PyProof.Rows.boot_all (za (yW (Nc := ["part"]) (ix := [none]) rfl rfl (by exact (zaj (pv 0))) (fun _ _ _ _ _ => (zp (i := 0) (by show (["part"]:List Str).Nodup; decide +kernel) rfl (Or.inl rfl))) (fun _ _ _ _ _ => yK) (fun _ _ _ _ _ => (zF Wo.ok hr rfl Wo.bound Wo.kp Wo.bd .nil zV (za (pv 0) zb)))) zb))))
     (zh (zw yT))
     zO)
     (zh (zw (yO (ye yt (zn zK (pv 0) (yi rfl gLEFT) (fun _ _ => rfl)) (zn zK (pv 0) (yi rfl gRIGHT) (fun _ _ => rfl)) (zr _)) (xv (ye yt (zn zK (pv 0) (yi rfl gTOP) (fun _ _ => rfl)) (zn zK (pv 0) (yi rfl gBELOW) (fun _ _ => rfl)) (zr _)))))))),?_⟩
   have key:(∃ (p:Addr) (ts:List V) (os:List (Option Int)),v = .ref p /\ H p = some (.tup ts) /\ ts.length = 4 /\ Paired (xt H) ts os /\ (os.all (·.isSome) = false -> boxO o = false) /\ (os.all (·.isSome) = true -> ∃ c,ts = bxV c /\ boxO o = boxB c)) \/ (∃ t,TyX K H v t /\ PySem.W.kitOne K t (.type "tuple") = some false /\ boxO o = false) \/ ∃ (p:Addr) (ts:List V),v = .ref p /\ H p = some (.tup ts) /\ ts.length ≠ 4 /\ boxO o = false := by
     cases hv with
     | @box _ b h =>
       obtain ⟨p,rfl,hp⟩ := h
       exact .inl ⟨p,_,[some b.l,some b.t,some b.r,some b.b],rfl,hp,rfl,.cons (.num _) (.cons (.num _) (.cons (.num _) (.cons (.num _) .nil))),(fun z => nomatch z),(fun _ => ⟨b,rfl,rfl⟩)⟩
     | num i => exact .inr (.inl ⟨_,.of (.int _),tt,rfl⟩)
     | @odd _ T h ne =>
       have m:T ∈ ["NoneType","bool","str","list","dict"] := by
         cases h with
         | tup h => exact absurd rfl ne
         | bl b => decide
         | non => decide
         | str x => decide
         | lst h => decide
         | dK h => decide
       exact .inr (.inl ⟨_,h.ty,kt T m,rfl⟩)
     | @len p ts hp ne => exact .inr (.inr ⟨p,ts,rfl,hp,ne,rfl⟩)
     | @four p ts os hp hl ho bad =>
       exact .inl ⟨p,ts,os,rfl,hp,hl,ho,(fun _ => rfl),(fun z => by
         have := List.all_eq_true.mp z none bad
         cases this)⟩
   rcases key with ⟨p,ts,os,rfl,hp,hl,hO,bF,bT⟩ | ⟨t,ty,kk,e⟩ | ⟨p,ts,rfl,hp,ne,e⟩
   · have lO:ts.length = os.length := Paired.length hO
     refine ⟨_,rfl,_,_,_,_,rfl,rfl,.of (.tup hp),rfl,_,rfl,iteF ?_⟩
     refine ⟨_,rfl,_,_,rfl,.inr (SqT.of hp),rfl,_,rfl,?_⟩
     refine za4 (by rw [hl]; rfl) ?_
     refine ⟨_,rfl,p,rfl,⟨_,SqT.of hp⟩,JB (K := K) (a := p) (xs := ts) (fun i ys σ H' => ys = (os.take i).map (fun o => V.bl o.isSome) /\ Same H H' /\ ∃ o,σ = [o])
       ⟨rfl,Same.refl _,none,rfl⟩ (fun i ys σ H' hi h9 => by obtain ⟨e,S,_⟩ := h9; exact (⟨by rw [e,List.length_map,List.length_take]; exact Nat.le_trans (show _ <= 1000 by omega) (by decide),SqT.of (S _ _ hp)⟩)) ?_ ?_⟩
     · rintro ys σ H' ⟨e,S,_⟩ l nl
       rw [lO,List.take_length] at e
       subst e
       have S2 := S.trans (zf (o := .lst (os.map fun o => V.bl o.isSome)) nl)
       refine ⟨l,os.map (·.isSome),rfl,SqL.of (by rw [zd,List.map_map]; rfl),?_⟩
       generalize upd H' l (.lst (os.map fun o => V.bl o.isSome)) = H2 at S2
       have ea:(os.map (·.isSome)).all id = os.all (·.isSome) := by rw [List.all_map]; rfl
       rw [ea]
       have ev := q _ S2
       cases hall:os.all (·.isSome) with
       | false =>
         rw [bF hall] at ev
         exact ⟨_,rfl,iteT ev⟩
       | true =>
         obtain ⟨c,ec,eb⟩ := bT hall
         subst ec
         rw [eb] at ev
         refine ⟨_,rfl,iteF ?_⟩
         have t2 := z6 (S2 _ _ hp) K
         refine wD ?_
         dsimp only
         refine qX (v := .bl (boxB c)) ?_ ev
         unfold boxB
         refine xz ?_ ?_ <;> exact zY (zL (zc rfl) zx t2 rfl) (zL (zc rfl) zx t2 rfl)
     · rintro i x ys σ H' hx ⟨e,S,o',rfl⟩
       subst e
       have hil:i < os.length := by rw [<- lO]; exact (List.getElem?_eq_some_iff.mp hx).1
       have eo:os[i]? = some os[i] := List.getElem?_eq_getElem hil
       obtain ⟨v,hv,hn⟩ := qp hO eo
       rw [hx] at hv
       cases hv
       dsimp only [zG,tYes]
       refine iteT ?_
       exact ⟨_,rfl,x,os[i],rfl,hn.same S,wm (fun o:Option Int => o.isSome) eo,S,_,rfl⟩
   · have z := q _ (Same.refl _)
     rw [e] at z
     exact ⟨_,rfl,_,_,_,_,rfl,rfl,ty,kk,_,rfl,iteT z⟩
   · refine ⟨_,rfl,_,_,_,_,rfl,rfl,.of (.tup hp),rfl,_,rfl,iteF ?_⟩
     refine ⟨_,rfl,_,_,rfl,.inr (SqT.of hp),rfl,_,rfl,?_⟩
     have e2:decide (V.int (ts.length:Int) = V.int 4) = false := decide_eq_false fun z => ne (by injection z with z; omega)
     rw [e2]
     have z := q _ (Same.refl _)
     rw [e] at z
     exact iteT z
theorem zba:zC ["things"] ["things"] (zl sAre) := ⟨rfl,rfl,rfl,by decide +kernel,rfl,by decide +kernel,by decide +kernel⟩
theorem zaF {f fB:Addr} {fd fdB:FuncData} (F:Fun K "are_boxes" "are_boxes" sAre f fd) (Z:Nm K mg) (Bo:Callee P w K mg base CX0 2 "is_box" fB fdB ["thing"] XW):FnOk P w K mg base CX0 3 f fd ["things"] XX := by
 obtain ⟨gLEFT,gTOP,gRIGHT,gBELOW,gMOST_BOXES,ti,tint,tbool,ttup,tlist,tl,tall,tany,tsum,ts,te,ib,tt,ki,kb,kt⟩ := Z
 refine F.ok zba (fun vs H Q E h => ?_) (fun cdv A outer s H vs Q E hr h => ?_)
 · obtain ⟨l,us,bs,rfl,_⟩ := h
   rfl
 · obtain ⟨l,us,bs,rfl,hl,hB,hlen,q⟩ := h
   refine ⟨_,(zg (zU (PW.pt (xy (yz (yu (zo xA (by rfl) ti PyProof.Rows.boot_isinstance (za (pv 0) (za (x8 rfl tlist PyProof.Rows.boot_list) zb))))) (xh (yz (QD qV qV ze (zo zI (by rfl) tl PySem.boot_len (za (pv 0) zb)) (yi rfl gMOST_BOXES))))))
     (zh (zw yT))
     zO)
     (zh (zw (zo (xZ rfl) (by rfl) tall PyProof.Rows.boot_all (za (yW (Nc := ["thing"]) (ix := [none]) rfl rfl (by refine' yo ?zz; case zz => exact (pv 0)) (fun _ _ _ _ _ => (zp (i := 0) (by show (["thing"]:List Str).Nodup; decide +kernel) rfl (Or.inl rfl))) (fun _ _ _ _ _ => yK) (fun _ _ _ _ _ => (zF Bo.ok hr rfl Bo.bound Bo.kp Bo.bd .nil zV (za (pv 0) zb)))) zb))))),?_⟩
   have lu := hB.len
   refine ⟨_,rfl,_,_,_,_,rfl,rfl,.of (.lst hl),rfl,_,rfl,iteF ?_⟩
   refine (Jr (zZ (p := 1 <= (us.length:Int) /\ (us.length:Int) <= 24) ?_)) _ ?_
   · have e:decide (1 <= (us.length:Int) /\ (us.length:Int) <= 24) = (decide (1 <= (us.length:Int)) && decide ((us.length:Int) <= 24)) := Bool.decide_and _ _
     rw [e]
     exact WF zx (wA (zc rfl) (SqL.of hl)) zx
   refine ite2 (fun c1 => ?_) (fun c1 => ?_)
   · have c1 := of_decide_eq_true c1
     have e:(decide (1 <= bs.length) && decide (bs.length <= 24) && bs.all boxO) = false := by
       rw [Bool.and_eq_false_iff]
       refine .inl ?_
       rw [Bool.and_eq_false_iff]
       by_cases h1:1 <= bs.length
       · exact .inr (decide_eq_false (by omega))
       · exact .inl (decide_eq_false h1)
     have z := q H (Same.refl _)
     rw [e] at z
     exact z
   · have c1:¬ ¬ (1 <= (us.length:Int) /\ (us.length:Int) <= 24) := fun z => c1 (decide_eq_true z)
     refine ⟨_,rfl,l,rfl,⟨_,SqL.of hl⟩,yI (K := K) (a := l) (xs := us) (fun i ys σ H' => ys = (bs.take i).map (fun b => V.bl (boxO b)) /\ Same H H' /\ ∃ o,σ = [o])
       ⟨rfl,Same.refl _,none,rfl⟩ (fun i ys σ H' hi h9 => by obtain ⟨e,S,_⟩ := h9; exact (⟨by rw [e,List.length_map,List.length_take]; exact Nat.le_trans (show _ <= 1000 by omega) (by decide),SqL.of (S _ _ hl)⟩)) ?_ ?_⟩
     · rintro ys σ H' ⟨e,S,_⟩ la nl
       rw [lu,List.take_length] at e
       subst e
       refine ⟨la,bs.map boxO,rfl,SqL.of (by rw [zd,List.map_map]; rfl),?_⟩
       have z := q _ (S.trans (zf (o := .lst (bs.map fun b => V.bl (boxO b))) nl))
       have e:(decide (1 <= bs.length) && decide (bs.length <= 24) && bs.all boxO) = (bs.map boxO).all id := by
         rw [decide_eq_true (by omega),decide_eq_true (by omega),List.all_map]
         rfl
       rw [e] at z
       exact z
     · rintro i x ys σ H' hx ⟨e,S,o,rfl⟩
       subst e
       have hil:i < bs.length := by rw [<- lu]; exact (List.getElem?_eq_some_iff.mp hx).1
       have eb:bs[i]? = some bs[i] := List.getElem?_eq_getElem hil
       generalize bs[i] = b at eb
       obtain ⟨v,hv,hb⟩ := qp hB eb
       rw [hx] at hv
       cases hv
       dsimp only [zG,tYes]
       refine iteT ?_
       exact ⟨_,rfl,x,b,rfl,hb.same S,fun H2 S2 => ⟨wm boxO eb,S.trans S2,_,rfl⟩⟩
theorem QX:zC ["box","wide","high"] ["box","wide","high"] (zl wt) := ⟨rfl,rfl,rfl,by decide +kernel,rfl,by decide +kernel,by decide +kernel⟩
theorem WZ {f:Addr} {fd:FuncData} (F:Fun K "is_within" "is_within" wt f fd) (Z:Nm K mg):FnOk P w K mg base CX0 1 f fd ["box","wide","high"] jH := by
 obtain ⟨gLEFT,gTOP,gRIGHT,gBELOW,gMOST_BOXES,ti,tint,tbool,ttup,tlist,tl,tall,tany,tsum,ts,te,ib,tt,ki,kb,kt⟩ := Z
 refine F.ok QX (fun vs H Q E h => ?_) (fun cdv A outer s H vs Q E hr h => ?_)
 · obtain ⟨v,b,W,G,rfl,_⟩ := h
   rfl
 · obtain ⟨v,b,W,G,rfl,⟨p,rfl,hp⟩,q⟩ := h
   refine ⟨_,(zh (zw (yO (ye qV ze (zn zK (pv 0) (yi rfl gLEFT) (fun _ _ => rfl)) (zr _)) (yO (ye qV (zn zK (pv 0) (yi rfl gRIGHT) (fun _ _ => rfl)) (pv 1) (zr _)) (yO (ye qV ze (zn zK (pv 0) (yi rfl gTOP) (fun _ _ => rfl)) (zr _)) (xv (ye qV (zn zK (pv 0) (yi rfl gBELOW) (fun _ _ => rfl)) (pv 2) (zr _)))))))),?_⟩
   have t := z6 hp K
   refine qX (v := .bl (yL b W G)) ?_ q
   unfold yL
   refine xz ?_ (xz ?_ (xz ?_ ?_))
   · exact zY zx (zL (zc rfl) zx t rfl)
   · exact zY (zL (zc rfl) zx t rfl) (zc rfl)
   · exact zY zx (zL (zc rfl) zx t rfl)
   · exact zY (zL (zc rfl) zx t rfl) (zc rfl)
theorem qM:zC ["one","other","across","down"] ["one","other"] (zl xO) := ⟨rfl,rfl,rfl,by decide +kernel,rfl,by decide +kernel,by decide +kernel⟩
theorem X0 {f:Addr} {fd:FuncData} (F:Fun K "overlap" "overlap" xO f fd) (Z:Nm K mg):FnOk P w K mg base CX0 1 f fd ["one","other"] qL := by
 obtain ⟨gLEFT,gTOP,gRIGHT,gBELOW,gMOST_BOXES,ti,tint,tbool,ttup,tlist,tl,tall,tany,tsum,ts,te,ib,tt,ki,kb,kt⟩ := Z
 refine F.ok qM (fun vs H Q E h => ?_) (fun cdv A outer s H vs Q E hr h => ?_)
 · obtain ⟨v,u,b,c,rfl,_⟩ := h
   rfl
 · obtain ⟨v,u,b,c,rfl,⟨p,rfl,hp⟩,⟨r,rfl,hr'⟩,q⟩ := h
   refine ⟨_,(zg (zt (i := 2) qM.nd rfl (Or.inl rfl) (yO (ye yt (zn zK (pv 0) (yi rfl gLEFT) (fun _ _ => rfl)) (zn zK (pv 1) (yi rfl gRIGHT) (fun _ _ => rfl)) (zr _)) (xv (ye yt (zn zK (pv 1) (yi rfl gLEFT) (fun _ _ => rfl)) (zn zK (pv 0) (yi rfl gRIGHT) (fun _ _ => rfl)) (zr _)))))
     (zg (zt (i := 3) qM.nd rfl (Or.inl rfl) (yO (ye yt (zn zK (pv 0) (yi rfl gTOP) (fun _ _ => rfl)) (zn zK (pv 1) (yi rfl gBELOW) (fun _ _ => rfl)) (zr _)) (xv (ye yt (zn zK (pv 1) (yi rfl gTOP) (fun _ _ => rfl)) (zn zK (pv 0) (yi rfl gBELOW) (fun _ _ => rfl)) (zr _)))))
     (zh (zw (yO (pv 2) (xv (pv 3))))))),?_⟩
   have t := z6 hp K
   have t' := z6 hr' K
   refine yx (v := .bl (decide (b.l < c.r) && decide (c.l < b.r))) ?_ ?_
   · refine xz ?_ ?_
     · exact zY (zL (zc rfl) zx t rfl) (zL (zc rfl) zx t' rfl)
     · exact zY (zL (zc rfl) zx t' rfl) (zL (zc rfl) zx t rfl)
   refine yx (v := .bl (decide (b.t < c.b) && decide (c.t < b.b))) ?_ ?_
   · refine xz ?_ ?_
     · exact zY (zL (zc rfl) zx t rfl) (zL (zc rfl) zx t' rfl)
     · exact zY (zL (zc rfl) zx t' rfl) (zL (zc rfl) zx t rfl)
   exact qX (v := .bl (lap b c)) (xz (zc rfl) (zc rfl)) q
theorem zaG:zC ["box"] ["box"] (zl jc) := ⟨rfl,rfl,rfl,by decide +kernel,rfl,by decide +kernel,by decide +kernel⟩
theorem JF {f:Addr} {fd:FuncData} (F:Fun K "area" "area" jc f fd) (Z:Nm K mg):FnOk P w K mg base CX0 1 f fd ["box"] YB := by
 obtain ⟨gLEFT,gTOP,gRIGHT,gBELOW,gMOST_BOXES,ti,tint,tbool,ttup,tlist,tl,tall,tany,tsum,ts,te,ib,tt,ki,kb,kt⟩ := Z
 refine F.ok zaG (fun vs H Q E h => ?_) (fun cdv A outer s H vs Q E hr h => ?_)
 · obtain ⟨v,b,rfl,_⟩ := h
   rfl
 · obtain ⟨v,b,rfl,⟨p,rfl,hp⟩,bd,q⟩ := h
   refine ⟨_,(zh (zw (zk xV (zk z8 (zn zK (pv 0) (yi rfl gRIGHT) (fun _ _ => rfl)) (zn zK (pv 0) (yi rfl gLEFT) (fun _ _ => rfl))) (zk z8 (zn zK (pv 0) (yi rfl gBELOW) (fun _ _ => rfl)) (zn zK (pv 0) (yi rfl gTOP) (fun _ _ => rfl)))))),?_⟩
   have t := z6 hp K
   refine qX (v := .int (area b)) ?_ q
   unfold area
   refine wk ?_ ?_ (.inl bd)
   · exact zY (zL (zc rfl) zx t rfl) (zL (zc rfl) zx t rfl)
   · exact zY (zL (zc rfl) zx t rfl) (zL (zc rfl) zx t rfl)
theorem zbb:zC ["box"] ["box"] (zl sTtl) := ⟨rfl,rfl,rfl,by decide +kernel,rfl,by decide +kernel,by decide +kernel⟩
theorem zaH {f:Addr} {fd:FuncData} (F:Fun K "top_then_left" "top_then_left" sTtl f fd) (Z:Nm K mg):FnOk P w K mg base CX0 1 f fd ["box"] XZ := by
 obtain ⟨gLEFT,gTOP,gRIGHT,gBELOW,gMOST_BOXES,ti,tint,tbool,ttup,tlist,tl,tall,tany,tsum,ts,te,ib,tt,ki,kb,kt⟩ := Z
 refine F.ok zbb (fun vs H Q E h => ?_) (fun cdv A outer s H vs Q E hr h => ?_)
 · obtain ⟨v,b,rfl,_⟩ := h
   rfl
 · obtain ⟨v,b,rfl,⟨p,rfl,hp⟩,q⟩ := h
   refine ⟨_,(zh (zw (zS (za (zn zK (pv 0) (yi rfl gTOP) (fun _ _ => rfl)) (za (zn zK (pv 0) (yi rfl gLEFT) (fun _ _ => rfl)) zb))))),?_⟩
   have t := z6 hp K
   exact ⟨_,rfl,_,_,_,_,rfl,rfl,t,rfl,_,rfl,_,_,_,_,rfl,rfl,t,rfl,by show 2 <= sizeLine; decide,fun p' n' => q p' _ (zf n') zd⟩
theorem X1:zC ["boxes","number","box"] ["boxes"] (zl sAny) := ⟨rfl,rfl,rfl,by decide +kernel,rfl,by decide +kernel,by decide +kernel⟩
theorem zaI {f fO:Addr} {fd fdO:FuncData} (F:Fun K "any_overlap" "any_overlap" sAny f fd) (Z:Nm K mg) (Ov:Callee P w K mg base CX0 1 "overlap" fO fdO ["one","other"] qL):FnOk P w K mg base CX0 2 f fd ["boxes"] XY := by
 obtain ⟨gLEFT,gTOP,gRIGHT,gBELOW,gMOST_BOXES,ti,tint,tbool,ttup,tlist,tl,tall,tany,tsum,ts,te,ib,tt,ki,kb,kt⟩ := Z
 refine F.ok X1 (fun vs H Q E h => ?_) (fun cdv A outer s H vs Q E hr h => ?_)
 · obtain ⟨l,us,bs,rfl,_⟩ := h
   rfl
 · obtain ⟨l,us,bs,rfl,hl,hB,hlen,qF,qT⟩ := h
   refine ⟨_,(zg (yF PassesOwn.never rfl (Yx rfl te (za (pv 0) zb)) (xI rfl (zE (zp (i := 1) X1.nd rfl (Or.inl rfl)) (zE (zp (i := 2) X1.nd rfl (Or.inr rfl)) xm)))
     (zh (zU (yu (zo (WU rfl) (by rfl) tany PyProof.Rows.boot_any (za (yW (Nc := ["other","box"]) (ix := [none,some 2]) rfl rfl (by refine' yo ?zz; case zz => exact (yg xN (pv 0) (yc (zk zQ (pv 1) ze)) y7)) (fun _ _ _ _ _ => (zp (i := 0) (by show (["other","box"]:List Str).Nodup; decide +kernel) rfl (Or.inl rfl))) (fun _ _ _ _ _ => yK) (fun _ _ _ _ _ => (zF Ov.ok hr rfl Ov.bound Ov.kp Ov.bd .nil zV (za (pv 1) (za (pv 0) zb))))) zb)))
       (zh (zw yT))
       zO)))
     (zh (zw yT))),?_⟩
   have lu := hB.len
   refine ⟨_,rfl,l,rfl,⟨_,SqL.of hl⟩,?_⟩
   refine WR (K := K) (a := l) (xs := us) (fun i σ H2 => ∃ (o1 o2:Option V),σ = [some (.ref l),o1,o2] /\ Same H H2 /\ ∀ (j:Nat) (b:Bx),j < i -> bs[j]? = some b -> ∀ c ∈ bs.drop (j + 1),lap b c = false)
     ⟨none,none,rfl,Same.refl _,fun j b hj => absurd hj (Nat.not_lt_zero _)⟩ (fun i σ H2 _ h9 => by obtain ⟨_,_,_,s2,_⟩ := h9; exact (SqL.of (s2 _ _ hl))) ?_ ?_
   · rintro i u σ H2 p hi ⟨o1,o2,rfl,S2,no⟩ hn
     have hil:i < bs.length := by rw [<- lu]; exact (List.getElem?_eq_some_iff.mp hi).1
     have eb:bs[i]? = some bs[i] := List.getElem?_eq_getElem hil
     generalize bs[i] = b at eb
     obtain ⟨v,hv,hbx⟩ := hB.get eb
     rw [hi] at hv
     cases hv
     have S3 := zf (o := .tup [.int i,u]) hn
     refine ⟨p,_,rfl,SqT.of zd,rfl,_,_,rfl,_,_,rfl,rfl,?_⟩
     generalize upd H2 p (.tup [.int i,u]) = H3 at S3
     have S23 := S2.trans S3
     refine ⟨_,rfl,_,rfl,_,_,rfl,rfl,_,rfl,l,us,rfl,SqL.of (S23 _ _ hl),fun pc nc => ?_⟩
     have e2:cutV us (some ((i:Int) + 1)) none = us.drop (i + 1) := ZN us (i + 1) (by omega)
     rw [e2]
     have S4 := S23.trans (zf (o := .lst (us.drop (i + 1))) nc)
     have hpc:(upd H3 pc (.lst (us.drop (i + 1)))) pc = some (.lst (us.drop (i + 1))) := zd
     generalize upd H3 pc (.lst (us.drop (i + 1))) = H4 at S4 hpc
     have hD := (hB.same S4).drop (i + 1)
     have lD := hD.len
     refine ⟨pc,rfl,⟨_,SqL.of hpc⟩,yI (K := K) (a := pc) (xs := us.drop (i + 1)) (fun k ys σ H' => ys = ((bs.drop (i + 1)).take k).map (fun c => V.bl (lap b c)) /\ Same H4 H' /\ ∃ o,σ = [o,some u])
       ⟨rfl,Same.refl _,none,rfl⟩ (fun k ys σ H' hk h9 => by obtain ⟨e,S,_⟩ := h9; exact (⟨by rw [e,List.length_map,List.length_take,List.length_drop]; exact Nat.le_trans (show _ <= 1000 by omega) (by decide),SqL.of (S _ _ hpc)⟩)) ?_ ?_⟩
     · rintro ys σ H' ⟨e,S,_⟩ la nl
       rw [lD,List.take_length] at e
       subst e
       refine ⟨la,(bs.drop (i + 1)).map (lap b),rfl,SqL.of (by rw [zd,List.map_map]; rfl),_,rfl,?_⟩
       have S5 := (S4.trans S).trans (zf (o := .lst ((bs.drop (i + 1)).map fun c => V.bl (lap b c))) nl)
       rw [List.any_map]
       refine ite2 (fun c1 => ?_) (fun c1 => ?_)
       · refine qT (fun pw => ?_) _ S5
         obtain ⟨c,hc,hl'⟩ := List.any_eq_true.mp c1
         have z:lap b c = false := by
           have e:bs = bs.take i ++ b :: bs.drop (i + 1) := by
             obtain ⟨h,e⟩ := List.getElem?_eq_some_iff.mp eb
             rw [<- e,List.getElem_cons_drop,List.take_append_drop]
           rw [e,List.pairwise_append,List.pairwise_cons] at pw
           exact pw.2.1.1 c hc
         rw [show (id ∘ lap b) c = lap b c from rfl,z] at hl'
         cases hl'
       · refine ⟨_,_,rfl,S5,fun j b' hj e c hc => ?_⟩
         by_cases hji:j = i
         · subst hji
           rw [eb] at e
           cases e
           rw [Bool.eq_false_iff]
           intro z
           exact c1 (List.any_eq_true.mpr ⟨c,hc,z⟩)
         · exact no j b' (by omega) e c hc
     · rintro k x ys σ H' hx ⟨e,S,o,rfl⟩
       subst e
       have hkl:k < (bs.drop (i + 1)).length := by rw [<- lD]; exact (List.getElem?_eq_some_iff.mp hx).1
       have ec:(bs.drop (i + 1))[k]? = some (bs.drop (i + 1))[k] := List.getElem?_eq_getElem hkl
       generalize (bs.drop (i + 1))[k] = c at ec
       obtain ⟨v,hv,hc⟩ := hD.get ec
       rw [hx] at hv
       cases hv
       dsimp only [zG,tYes]
       refine iteT ?_
       exact ⟨_,rfl,_,rfl,u,x,b,c,rfl,hbx.same (S4.trans S),hc.same S,wm (lap b) ec,S,_,rfl⟩
   · rintro σ H2 ⟨o1,o2,rfl,S2,no⟩
     refine qF ?_ _ S2
     rw [List.pairwise_iff_getElem]
     intro i j hi hj hij
     refine no i bs[i] (by rw [lu]; exact hi) (List.getElem?_eq_getElem hi) _ ?_
     rw [List.mem_iff_getElem]
     exact ⟨j - (i + 1),by rw [List.length_drop]; omega,by rw [List.getElem_drop]; congr 1; omega⟩
end
end _K4
namespace _L2
open PySem PySem.Spec PyProof.Rows PySem.W
end _L2
namespace _L2
open PySem PySem.Spec PyProof.Rows
noncomputable def TrX (h base:Heap) (e:Addr) (cls a0 fl:Value):Prop :=
 ∃ (oe:Obj) (vs:Array Value) (T:Addr) (oT:Obj) (ts:Array Value),h.get? e = some oe /\ oe.cls = cls /\ oe.data = .fields vs /\ vs[0]? = some a0 /\ vs[2]? = some .none /\ vs[1]? = some (.ref T) /\ base.get? T = none /\ T ≠ e /\ h.get? T = some oT /\ oT.data = .fields ts /\ ts[3]? = some fl
theorem TrX.traced {h base:Heap} {e:Addr} {cls a0 fl:Value} (x:TrX h base e cls a0 fl):h.TracedAtW base e cls a0 fl :=
 let ⟨oe,vs,T,oT,ts,a,b,c,d,_,f,g,i,j,k,l⟩ := x; ⟨oe,vs,T,oT,ts,a,⟨b,d⟩,c,f,g,i,j,k,l⟩
section
variable {M:Model} {A:Around} {E:Value -> Shared -> Prop} {s:Shared} {base:Heap} {env:Env} {outer:List Env} {L e:Addr}
theorem W0 {oe:Obj} {vs:Array Value} {head a0:Value} {hadNext:Bool} {Q:Unit -> Shared -> Prop} (hfr:A.frames = some (env :: outer)) (hl:s.heap.FunFrames base (env :: outer)) (hf:env.frame = some L) (he:s.heap.get? e = some oe) (hkb:base.StaysIn s.heap) (hen:base.get? e = none) (hd:oe.data = .fields vs) (hsz:1 < vs.size) (h0:vs[0]? = some a0) (h2:vs[2]? = some .none)
   (h:∀ h',base.StaysIn h' -> h'.FunFrames base (env :: outer) -> TrX h' base e oe.cls a0 (rawInt L) -> s.heap.UpToSlots h' -> Q () { s with heap := h' }) :
   wpAny M A (do let a <- frameOf env; let pl <- entryPlaceOf L hadNext; let b <- EntryCells.newEntry head a .none (rawInt L) .none pl; setField (.ref e) 1 b) Q E s := by
 have nfr:e ∉ (env :: outer).filterMap (·.frame) := fun m => by
   obtain ⟨_,o,ho,nf⟩ := hl.mem m
   rw [he] at ho
   cases ho
   exact nf vs hd
 refine wpAny_bind (wpAny_frameOf_fun hfr hl hf fun g1 q1 => wpAny_bind (wpAny_entryPlaceOf fun pl hpl => ?_))
 unfold EntryCells.newEntry newFields
 refine wpAny_bind (wpAny_newObj_type ?_ (hpl.sizeOk5 _ _ _ _ _))
 have e1:g1.get? e = some oe := (q1.2.1 e nfr).trans he
 have b1:base.StaysIn g1 := fun b o z => (q1.2.1 b fun m => by rw [(hl.mem m).1] at z; cases z).trans (hkb b o z)
 generalize hT:({ cls := .type "traceback",dict := none,data := .fields ([head,.ref L,.none,rawInt L,.none] ++ (if pl.isEmpty then List.replicate 6 Value.none else pl)).toArray }:Obj) = tb
 have e2:(g1.push tb).get? e = some oe := Heap.get?_push_of_some (h := g1) tb e1
 have nT:g1.objs.size ≠ e := Nat.ne_of_gt (Heap.lt_size e1)
 have d3 := Obj.data_mapFields hd (·.setIfInBounds 1 (Value.ref g1.objs.size))
 have e3 := Heap.get?_update_self (Obj.mapFields (·.setIfInBounds 1 (Value.ref g1.objs.size))) e2 (Obj.isFreed_of_fields d3)
 have t3:((g1.push tb).update e (Obj.mapFields (·.setIfInBounds 1 (Value.ref g1.objs.size)))).get? g1.objs.size = some tb := (Heap.get?_update_other _ _ (Ne.symm nT)).trans (Heap.get?_push_size g1 (by rw [<- hT]; rfl))
 have keep:∀ b o,b ≠ e -> g1.get? b = some o -> ((g1.push tb).update e (Obj.mapFields (·.setIfInBounds 1 (Value.ref g1.objs.size)))).get? b = some o := fun b o nb hb => (Heap.get?_update_other _ _ (Ne.symm nb)).trans (Heap.get?_push_of_some _ hb)
 have noR:∀ b o,s.heap.get? b = some o -> (∀ vs,o.data ≠ .fields vs) -> b ≠ e := fun b o hb nf z => by
   rw [z,he] at hb
   cases hb
   exact nf vs hd
 refine wpAny_setField e2 hd hsz (h _ (fun b o z => keep b o (fun y => by rw [y,hen] at z; cases z) (b1 b o z)) (hl.of_keeps fun b o hb nf => ?_) ?_ fun b o hb nf => ?_)
 · obtain ⟨sl,z⟩ := q1.2.2 b o hb
   exact ⟨_,keep b _ (noR b o hb nf) z,rfl⟩
 · refine ⟨_,_,g1.objs.size,tb,_,e3,Obj.cls_mapFields _ _,d3,?_,?_,by simp [hsz],b1.fresh,nT,t3,by rw [<- hT],?_⟩
   · rw [Array.getElem?_setIfInBounds_ne (by decide)]
     exact h0
   · rw [Array.getElem?_setIfInBounds_ne (by decide)]
     exact h2
   · rcases hpl with rfl | ⟨_,_,_,_,_,_,_,rfl⟩ <;> simp
 · obtain ⟨sl,z⟩ := q1.2.2 b o hb
   exact ⟨sl,keep b _ (noR b o hb nf) z⟩
theorem Zn {l:List Env} {cls a0 fl:Value} {Q:Unit -> Shared -> Prop} (hkb:base.StaysIn s.heap) (hl:s.heap.FunFrames base l) (ht:TrX s.heap base e cls a0 fl)
   (h:∀ h',base.StaysIn h' -> h'.FunFrames base l -> TrX h' base e cls a0 .none -> s.heap.UpToSlots h' -> Q () { s with heap := h' }):wpAny M A (setFlight (.ref e) none) Q E s := by
 obtain ⟨oe,vs,T,oT,ts,he,hc,hd,h0,h2,h1,nT,ne,hT,hdT,h3⟩ := ht
 have z3:3 < ts.size := (Array.getElem?_eq_some_iff.mp h3).1
 have oth:∀ b,b ≠ T -> (s.heap.update T (Obj.mapFields (·.setIfInBounds 3 ((none:Option Addr).elim Value.none fun f => rawInt f)))).get? b = s.heap.get? b := fun b nb => Heap.get?_update_other _ _ (Ne.symm nb)
 have noR:∀ b o,s.heap.get? b = some o -> (∀ vs,o.data ≠ .fields vs) -> b ≠ T := fun b o hb nf z => by
   rw [z,hT] at hb
   cases hb
   exact nf ts hdT
 unfold setFlight
 refine wpAny_bind (wpAny_field he hd h1 ?_)
 rw [if_pos (by simp)]
 exact wpAny_setField hT hdT z3 (h _ (fun b o z => (oth b fun y => by rw [y,nT] at z; cases z).trans (hkb b o z)) (hl.of_keeps fun b o hb nf => ⟨o,(oth b (noR b o hb nf)).trans hb,rfl⟩)
   ⟨oe,vs,T,_,_,(oth e (Ne.symm ne)).trans he,hc,hd,h0,h2,h1,nT,ne,Heap.get?_update_self _ hT (Obj.isFreed_of_fields (Obj.data_mapFields hdT _)),Obj.data_mapFields hdT _,by simp [z3]⟩ fun b o hb nf => ⟨o.slots,(oth b (noR b o hb nf)).trans hb⟩)
theorem zbc {cls a0:Value} {Q:Unit -> Shared -> Prop} (hfr:A.frames = some (env :: outer)) (hl:s.heap.FunFrames base (env :: outer)) (hf:env.frame = some L) (ht:TrX s.heap base e cls a0 .none) (hkb:base.StaysIn s.heap) (hen:base.get? e = none)
   (h:∀ h',base.StaysIn h' -> h'.FunFrames base (env :: outer) -> TrX h' base e cls a0 (rawInt L) -> s.heap.UpToSlots h' -> Q () { s with heap := h' }):wpAny M A (noteFrame (.ref e) env) Q E s := by
 obtain ⟨oe,vs,T,oT,ts,he,hc,hd,h0,h2,h1,nT,ne,hT,hdT,h3⟩ := ht
 subst hc
 unfold noteFrame
 simp only [hf]
 refine wpAny_bind (wpAny_field he hd h1 ?_)
 rw [if_pos (by simp)]
 refine wpAny_bind (wpAny_field hT hdT h3 ?_)
 rw [if_neg (by simp [rawInt])]
 refine wpAny_bind (wpAny_setField hT hdT (Array.getElem?_eq_some_iff.mp h3).1 ?_)
 have oth:∀ b,b ≠ T -> (s.heap.update T (Obj.mapFields (·.setIfInBounds 3 Value.none))).get? b = s.heap.get? b := fun b nb => Heap.get?_update_other _ _ (Ne.symm nb)
 have noR:∀ b o,s.heap.get? b = some o -> (∀ vs,o.data ≠ .fields vs) -> b ≠ T := fun b o hb nf z => by
   rw [z,hT] at hb
   cases hb
   exact nf ts hdT
 exact W0 hfr (hl.of_keeps fun b o hb nf => ⟨o,(oth b (noR b o hb nf)).trans hb,rfl⟩) hf ((oth e (Ne.symm ne)).trans he) (fun b o z => (oth b fun y => by rw [y,nT] at z; cases z).trans (hkb b o z)) hen hd (Array.getElem?_eq_some_iff.mp h1).1 h0 h2 fun h' x1 x2 x3 x4 => h h' x1 x2 x3 fun b o hb nf => x4 b o ((oth b (noR b o hb nf)).trans hb) nf
theorem YE {oe:Obj} {vs:Array Value} {a0:Value} {Q:Unit -> Shared -> Prop} (hfr:A.frames = some (env :: outer)) (hl:s.heap.FunFrames base (env :: outer)) (hf:env.frame = some L) (he:s.heap.get? e = some oe) (hkb:base.StaysIn s.heap) (hen:base.get? e = none) (hd:oe.data = .fields vs) (h1:vs[1]? = some .none) (h0:vs[0]? = some a0) (h2:vs[2]? = some .none)
   (h:∀ h',base.StaysIn h' -> h'.FunFrames base outer -> TrX h' base e oe.cls a0 .none -> s.heap.UpToSlots h' -> Q () { s with heap := h' }):wpAny M A (leaving env (.ref e)) Q E s := by
 unfold leaving noteFrame
 simp only [hf]
 refine wpAny_bind (wpAny_bind (wpAny_field he hd h1 ?_))
 rw [if_neg (by decide)]
 refine W0 hfr hl hf he hkb hen hd (Array.getElem?_eq_some_iff.mp h1).1 h0 h2 fun g1 x1 x2 x3 x4 => Zn (s := { s with heap := g1 }) x1 x2 x3 fun g2 y1 y2 y3 y4 => ?_
 obtain ⟨_,_,y2⟩ := y2
 exact h g2 y1 y2 y3 (x4.trans y4)
end
end _L2
namespace _L2
open PySem PySem.Spec PyProof.Rows PySem.W
noncomputable def Nc (ea:Addr):Heap -> Prop := fun h => ∃ (o:Obj) (vs:Array Value),h.get? ea = some o /\ o.data = .fields vs /\ vs[2]? = some .none
theorem Nc.ok {P:Program} {w:World} {H:Hp} {h:Heap} {ea:Addr} (x:Nc ea h):z7 P w H h ea (.ext (Nc ea)) := by
 obtain ⟨o,vs,e1,e2,e3⟩ := x
 exact ⟨⟨o,vs,e1,e2,e3⟩,⟨o,e1⟩,fun h1 h2 ⟨o1,v1,a,b,c⟩ k => ⟨o1,v1,k _ a,b,c⟩⟩
theorem TrX.nc {h base:Heap} {e:Addr} {cls a0 fl:Value} (x:TrX h base e cls a0 fl):Nc e h := by
 obtain ⟨oe,vs,T,oT,ts,a,b,c,d,f,_⟩ := x
 exact ⟨oe,vs,a,c,f⟩
theorem Z6:entryFor table "proto.unchain" = some Builtin.«proto.unchain» := entryFor_of_tree (by kernel_rfl)
section
variable {prog:Program} {w:World} {A:Around} {E:Value -> Shared -> Prop} {s:Shared}
theorem QY {e ea:Addr} {Q:Value -> Shared -> Prop} (n:Nc ea s.heap) (q:Q .none s):wpAny (model prog w) A (runValue (.builtin "proto.unchain" ⟨[.ref e,.ref ea,.ref ea,.bool false],[]⟩)) Q E s := by
 obtain ⟨o,vs,e1,e2,e3⟩ := n
 refine wpAny_runValue (codeAny_builtin Z6 ?_)
 unfold Builtin.«proto.unchain»
 refine wpAny_bind (wpAny_field e1 e2 e3 ?_)
 show wpAny _ _ (ret .none) _ _ _
 exact wpAny_pure q
theorem W2 {α:Type} {e ea:Addr} {Q:α -> Shared -> Prop} {cls a0 b3 b4 b5:Value} (hh:A.handled = some (.ref ea)) (ne:e ≠ ea) (n:Nc ea s.heap)
   (he:s.heap.get? e = some { cls := cls,data := .fields #[a0,.none,.none,b3,b4,b5] })
   (h:∀ h',(∀ b,b ≠ e -> h'.get? b = s.heap.get? b) -> h'.get? e = some { cls := cls,data := .fields #[a0,.none,.ref ea,b3,b4,b5] } -> E (.ref e) { s with heap := h' }):wpAny (model prog w) A (raiseNew (.ref e):Sem α) Q E s := by
 unfold raiseNew
 refine wpAny_bind (wpAny_handled ?_)
 rw [hh]
 dsimp only
 rw [if_pos (by simp [Ne.symm ne])]
 refine wpAny_bind (wpAny_holding (QY n ?_))
 have e2 := Heap.get?_update_self (Obj.mapFields (·.setIfInBounds 2 (Value.ref ea))) he (Obj.isFreed_of_fields (Obj.data_mapFields rfl _))
 refine wpAny_bind (wpAny_setField (a := e) (i := 2) he rfl (by show 2 < 6; decide) (wpAny_throw (h _ (fun b nb => Heap.get?_update_other _ _ (Ne.symm nb)) ?_)))
 exact e2
variable {nm q:Str} {C N:Addr} {bs bm:List Value} {hdct:Bool} {sn:List Str} {sub:List Value} {ab:Bool} {col:Option Bool} {dd:Option Addr} {k0 k1 k2 k3 k5:Option Value} {newId:String}
theorem X2 {env:Env} {x c:Sem Value} {Q:Flow -> Shared -> Prop} {ea:Addr} (hbase:bm.contains (.type "BaseException") = true) (hh:A.handled = some (.ref ea)) (hc:∀ {s:Shared} {R:Value -> Shared -> Prop},R .none s -> wpAny (model prog w) A c R E s)
   (h:wpAny (model prog w) A x (fun v s₁ => ∃ e t,v = .ref e /\ s₁.heap.get? C = some (excClassObj nm q C N bs bm hdct sn sub ab col dd k0 k1 k2 k3 k5 newId) /\
     s₁.heap.get? e = some { cls := .ref C,data := .fields #[.ref t,.none,.none,.none,.bool false,.none] } /\ e ≠ ea /\ Nc ea s₁.heap /\
     ∀ h',(∀ b,b ≠ e -> h'.get? b = s₁.heap.get? b) -> h'.get? e = some { cls := .ref C,data := .fields #[.ref t,.none,.ref ea,.none,.bool true,.none] } -> E (.ref e) { s₁ with heap := h' }) E s) :
   wpAny (model prog w) A (raiseStmt env (some x) (some c)) Q E s := by
 have hcB:(Value.ref C :: bm).contains (.type "BaseException") = true := by rw [List.contains_cons,hbase,Bool.or_true]
 unfold raiseStmt
 refine wpAny_bind (wpAny_mono h (fun v s₁ h₁ => ?_) fun _ _ x => x)
 obtain ⟨e,t,rfl,hC,he,ne,n,hE⟩ := h₁
 obtain ⟨hp,g,d,tk,os⟩ := s₁
 dsimp only
 refine wpAny_bind (wpAny_holding (hc (wpAny_bind (wpAny_pure ?_))))
 refine wpAny_bind (wpAny_holding ?_)
 have hx:∀ {R:Value -> Shared -> Prop},R (.ref e) ⟨hp,g,d,tk,os⟩ -> wpAny (model prog w) A (excFromValue (Value.ref e) "exceptions must derive from BaseException") R E ⟨hp,g,d,tk,os⟩ := fun {R} r => by
   unfold excFromValue
   repeat (first | with_reducible refine wpAny_loadPart_at he ?_ | with_reducible refine wpAny_loadPart_at hC ?_ | (with_reducible refine wpAny_isSubtype_exc hC ?_; rw [hcB]) | wp_step)
   exact r
 refine hx ?_
 dsimp only
 rw [if_pos (by decide)]
 have Ce:C ≠ e := fun z => by rw [z,he] at hC; cases hC
 refine wpAny_bind (wpAny_pure ?_)
 refine wpAny_bind (wpAny_setField (a := e) (i := 3) he rfl (by show 3 < 6; decide) ?_)
 have e1 := Heap.get?_update_self (Obj.mapFields (·.setIfInBounds 3 Value.none)) he (Obj.isFreed_of_fields (Obj.data_mapFields rfl _))
 have o1:∀ b,b ≠ e -> (hp.update e (Obj.mapFields (·.setIfInBounds 3 Value.none))).get? b = hp.get? b := fun b nb => Heap.get?_update_other _ _ (Ne.symm nb)
 generalize (hp.update e (Obj.mapFields (·.setIfInBounds 3 Value.none))) = hp1 at e1 o1 ⊢
 refine wpAny_bind (wpAny_setField (a := e) (i := 4) e1 rfl (by show 4 < 6; decide) ?_)
 have e2 := Heap.get?_update_self (Obj.mapFields (·.setIfInBounds 4 (Value.bool true))) e1 (Obj.isFreed_of_fields (Obj.data_mapFields rfl _))
 have o2:∀ b,b ≠ e -> (hp1.update e (Obj.mapFields (·.setIfInBounds 4 (Value.bool true)))).get? b = hp.get? b := fun b nb => (Heap.get?_update_other _ _ (Ne.symm nb)).trans (o1 b nb)
 dsimp only
 generalize (hp1.update e (Obj.mapFields (·.setIfInBounds 4 (Value.bool true)))) = hp2 at e2 o2 ⊢
 have e3:hp2.get? e = some { cls := .ref C,data := .fields #[.ref t,.none,.none,.none,.bool true,.none] } := e2
 have C3 := (o2 C Ce).trans hC
 clear e2 e1 o1
 repeat (first | with_reducible refine wpAny_loadPart_at e3 ?_ | with_reducible refine wpAny_loadPart_at C3 ?_ | (with_reducible refine wpAny_isSubtype_exc C3 ?_; rw [hcB]) | wp_step)
 refine W2 hh ne ?_ e3 fun h' k1 k2 => hE h' (fun b nb => (k1 b nb).trans (o2 b nb)) k2
 obtain ⟨o,vs,z1,z2,z3⟩ := n
 exact ⟨o,vs,(o2 ea (Ne.symm ne)).trans z1,z2,z3⟩
variable {bmB:List Value} {B initId:String}
theorem Xh (F:ExcBaseFacts B newId initId bmB) {env:Env} {ea:Addr} {mN:Str -> Option Value} {x:Str} {np cpos pos p3:Pos} {kk:Nat} {args:List Expr} {Q:Flow -> Shared -> Prop}
   (hbase:bm.contains (.type "BaseException") = true) (hh:A.handled = some (.ref ea)) (hplain:(backTo cpos (starEach args env)).any (·.1) = false) (hni:mN "__init__" = none)
   (h:wpAny (model prog w) A (eval (.Name x np) env) (fun f s₁ => f = .ref C /\ wpAny (model prog w) A (evalArgs (.ref C) true (backTo cpos (starEach args env)) [])
     (fun a s₂ => a.kw = [] /\ a.pos.length <= sizeLine /\ s₂.heap.get? C = some (excClassObj nm q C N bs bm hdct sn sub ab col dd k0 k1 k2 k3 k5 newId) /\ s₂.heap.Ns N mN /\ OwnTail s₂.heap bmB bm /\ Nc ea s₂.heap /\
       ∀ h' e t,(∀ b o,s₂.heap.get? b = some o -> h'.get? b = some o) -> s₂.heap.get? e = none -> h'.get? e = some { cls := .ref C,data := .fields #[.ref t,.none,.ref ea,.none,.bool true,.none] } -> E (.ref e) { s₂ with heap := h' }) E s₁) E s) :
   wpAny (model prog w) A (exec (.Raise (some (.Call (.Name x np) args [] cpos)) (some (.Constant .none kk p3)) pos) env) Q E s := by
 rw [arm_exec_Raise]
 refine wpAny_bind (wpAny_standAt (X2 (C := C) (nm := nm) (q := q) (N := N) (bs := bs) (bm := bm) (hdct := hdct) (sn := sn) (sub := sub) (ab := ab) (col := col) (dd := dd) (k0 := k0) (k1 := k1) (k2 := k2) (k3 := k3) (k5 := k5) (newId := newId) hbase hh (fun {s R} r => ?_) (wpAny_bind (wpAny_mono (wpAny_Call_ofName (wpAny_mono h (fun f s₁ h₁ => ?_) fun _ _ x => x)) (fun v s₃ h₃ => wpAny_bind (wpAny_standAt (wpAny_pure h₃))) fun _ _ x => x))))
 · show wpAny _ _ (do let v <- eval (.Constant .none kk p3) env; standAt pos; pure v) _ _ _
   exact wpAny_bind (wpAny_Constant_none (wpAny_bind (wpAny_standAt (wpAny_pure r))))
 obtain ⟨rfl,h₁⟩ := h₁
 unfold callWith
 refine wpAny_bind (wpAny_holding (wpAny_mono h₁ (fun a s₂ h₂ => wpAny_bind (wpAny_standAt ?_)) fun _ _ x => x))
 obtain ⟨apos,akw⟩ := a
 obtain ⟨hkw,hlen,hC,hn,T,n,h₂⟩ := h₂
 obtain rfl:akw = [] := hkw
 obtain ⟨hp,g,d,tk,os⟩ := s₂
 simp only [hplain]
 refine wpAny_bind (wpAny_keeperOf_exc hC ?_)
 refine wpAny_bind (wpAny_call_exc_subT (hrest := hlen) F T hC hn hni fun h' e hm => wpAny_bind (wpAny_holding (wpAny_point (wpAny_pure ?_))))
 obtain ⟨t,ht,_,_⟩ := hm.there
 have ne:e ≠ ea := fun z => by
   obtain ⟨o,vs,z1,_⟩ := n
   have := hm.new
   rw [z] at this
   rw [this] at z1
   cases z1
 refine ⟨e,t,rfl,hm.keeps _ _ hC,ht,ne,?_,fun h2 k1 k2 => h₂ h2 e t (fun b o z => (k1 b fun y => ?_).trans (hm.keeps b o z)) hm.new k2⟩
 · obtain ⟨o,vs,z1,z2,z3⟩ := n
   exact ⟨o,vs,hm.keeps _ _ z1,z2,z3⟩
 · rw [y] at z
   rw [hm.new] at z
   cases z
end
section
variable {CX:CXT} {P:Program} {w:World} {K:PySem.W.Frag} {mg:Str -> Option Value} {base:Heap} {N:List Str} {qual:Str} {scope:Scope} {f:Addr} {cd:Value} {A:Around} {outer:List Env} {s₀:Shared} {H₀:Hp} {E:XK}
theorem YF {pins:List (Addr × Obj)} {σ:St} {H:Hp} {s:Shared} {C e:Addr} {a0:Value} {h' h2:Heap} (I:Inv (cxOf CX P w K mg base N qual scope f cd A outer s₀ H₀ E) pins σ H s)
   (hk:∀ b o,s.heap.get? b = some o -> h'.get? b = some o) (new:s.heap.get? e = none) (st:(PySem.W.hideAll s.heap (frs (envOfC qual scope s₀.heap.objs.size f cd :: outer))).StaysIn h2)
   (tr:h2.TracedAtW (PySem.W.hideAll s.heap (frs (envOfC qual scope s₀.heap.objs.size f cd :: outer))) e (.ref C) a0 .none) (up:h'.UpToSlots h2) (q:E (.ref C) none H):CXE P w outer H₀ s₀ E (.ref e) { s with heap := h2 } := by
 have inB:∀ b o,b ∉ frs (envOfC qual scope s₀.heap.objs.size f cd :: outer) -> s.heap.get? b = some o -> h2.get? b = some o := fun b o nb z => st b o (PySem.W.hideAll_get _ z nb)
 have upS:∀ b o,b ∈ frs (envOfC qual scope s₀.heap.objs.size f cd :: outer) -> s.heap.get? b = some o -> ∃ sl,h2.get? b = some { o with slots := sl } := fun b o nb z => by
   obtain ⟨_,o',z',hd⟩ := I.stack.mem nb
   rw [z] at z'
   cases z'
   exact up b o (hk b o z) hd
 have notL:∀ b o,s₀.heap.get? b = some o -> b ∉ frs outer -> b ∉ frs (envOfC qual scope s₀.heap.objs.size f cd :: outer) := fun b o z nb m => by
   rcases List.mem_cons.mp (I.stkSub b m) with z' | z'
   · have := Heap.lt_size z
     have z':b = s₀.heap.objs.size := z'
     rw [z'] at this
     exact Nat.lt_irrefl _ this
   · exact nb z'
 have thr:∀ b o,s.heap.get? b = some o -> ∃ o',h2.get? b = some o' := fun b o z => by
   by_cases hb:b ∈ frs (envOfC qual scope s₀.heap.objs.size f cd :: outer)
   · obtain ⟨sl,z'⟩ := upS b o hb z
     exact ⟨_,z'⟩
   · exact ⟨o,inB b o hb z⟩
 obtain ⟨oe,vs',T,oT,ts,a1,⟨a2,a3⟩,a4,a5,a6,a7,a8,a9,a10⟩ := tr
 have noT:s.heap.get? T = none := by
   cases z:s.heap.get? T with
   | none => rfl
   | some o =>
     by_cases hb:T ∈ frs (envOfC qual scope s₀.heap.objs.size f cd :: outer)
     · obtain ⟨_,o',z',hd⟩ := I.stack.mem hb
       obtain ⟨sl,z2⟩ := upS T o hb z
       rw [z] at z'
       cases z'
       rw [a8] at z2
       cases z2
       exact absurd a9 (hd ts)
     · rw [PySem.W.hideAll_get _ z hb] at a6
       cases a6
 have no0:∀ b,s.heap.get? b = none -> s₀.heap.get? b = none := fun b z => by
   cases y:s₀.heap.get? b with
   | none => rfl
   | some o =>
     obtain ⟨o',z'⟩ := I.base.there b o y (fun m => nomatch m)
     rw [z] at z'
     cases z'
 refine ⟨e,T,C,H,rfl,I.os,I.bare,⟨fun b o z n nb _ => ?_,fun b o z n nb _ => ?_,fun b o z n _ => I.base.free b o z n (fun m => nomatch m),fun b o z _ => ?_,I.base.tups,I.base.frzs,I.base.tbls⟩,fun a o z => ?_,
   ⟨⟨oe,vs',a0,oT,ts,a1,a2,a4,a3,a5,a8,a9,a10⟩,a7,I.none_of new,I.none_of noT,no0 _ new,no0 _ noT⟩,q⟩
 · exact inB b o (notL b o z nb) (I.base.keep b o z n nb (fun m => nomatch m))
 · obtain ⟨sl,z1⟩ := I.base.slot b o z n nb (fun m => nomatch m)
   obtain ⟨sl',z2⟩ := upS b _ (by
     show b ∈ frs _
     unfold frs
     rw [List.filterMap_cons]
     exact List.mem_cons_of_mem _ nb) z1
   exact ⟨sl',z2⟩
 · obtain ⟨o',z'⟩ := I.base.there b o z (fun m => nomatch m)
   exact thr b o' z'
 · refine (I.hok a o z).stay (fun b u hb r => ?_) (fun _ y => y) fun _ _ y => y
   refine inB b u (fun m => ?_) r
   have := I.stkFree b m
   rcases hb with rfl | hb
   · rw [z] at this; cases this
   · rw [hb] at this; cases this
noncomputable def CXS (P:Program) (w:World):CXT := fun outer H s E e s' => CXE P w outer H s E e s' /\ ∀ ea,e = .ref ea -> Nc ea s'.heap
theorem YG {pins:List (Addr × Obj)} {σ:St} {H:Hp} {s:Shared} {C e:Addr} {vs:List Value} {h':Heap} (I:Inv (cxOf (CXS P w) P w K mg base N qual scope f cd A outer s₀ H₀ E) pins σ H s)
   (hx:Heap.MadeExcOf s.heap h' e (.ref C) vs) (q:E (.ref C) none H):(cxOf (CXS P w) P w K mg base N qual scope f cd A outer s₀ H₀ E).xe (.ref e) { s with heap := h' } := by
 have hin:∀ b ∈ frs (envOfC qual scope s₀.heap.objs.size f cd :: outer),b ∈ frs (envOfC qual scope s₀.heap.objs.size f cd :: outer) := fun _ z => z
 have ff := I.hid _ hin
 obtain ⟨t,he,_,_⟩ := hx.there
 have nB:(PySem.W.hideAll s.heap (frs (envOfC qual scope s₀.heap.objs.size f cd :: outer))).get? e = none := by
   cases z:(PySem.W.hideAll s.heap (frs (envOfC qual scope s₀.heap.objs.size f cd :: outer))).get? e with
   | none => rfl
   | some o =>
     have := PySem.W.of_hideAll _ z
     rw [hx.new] at this
     cases this
 show wpAny _ _ (leaving _ _) _ _ _
 refine YE (a0 := .ref t) I.ok.frames (ff.of_keeps fun b o hb _ => ⟨o,hx.keeps b o hb,rfl⟩) rfl he (fun b o z => hx.keeps b o (PySem.W.of_hideAll _ z)) nB rfl rfl rfl rfl fun h2 k1 k2 k3 k4 => ?_
 have z := YF I hx.keeps hx.new k1 k3.traced k4 q
 exact ⟨z,fun ea y => by cases y; exact k3.nc⟩
theorem qO {x:Str} {C:Addr} {e:Expr} {es:List Expr} {t:TA} {np cpos pos:Pos} (ex:Exc K mg x C) (hh:A.handled = none) (hg:Gl (cxOf (CXS P w) P w K mg base N qual scope f cd A outer s₀ H₀ E) x)
   (ha:PA (cxOf (CXS P w) P w K mg base N qual scope f cd A outer s₀ H₀ E) (e :: es) t)
   (hs:starEach (e :: es) (envOfC qual scope s₀.heap.objs.size f cd) = (false,eval e (envOfC qual scope s₀.heap.objs.size f cd)) :: starEach es (envOfC qual scope s₀.heap.objs.size f cd) := by rfl)
   (hpl:(backTo cpos (starEach es (envOfC qual scope s₀.heap.objs.size f cd))).any (·.1) = false := by rfl) (hd:(x == ("__debug__" : Str)) = false := by decide) :
   PS (cxOf (CXS P w) P w K mg base N qual scope f cd A outer s₀ H₀ E) (.Raise (some (.Call (.Name x np) (e :: es) [] cpos)) none pos) (Wy C t E) := by
 intro pins s σ H D I h
 obtain ⟨bm,N',nm,qn,bs,hdct,sn,sub,ab,col,dd,k0,k1,k2,k3,k5,mN,hC,hN,hni,TL⟩ := Zc (h := base) I.mod.kin ex.ex
 refine wpAny_Raise_call_subT (C := C) (nm := nm) (q := qn) (N := N') (bs := bs) (bm := bm) (hdct := hdct) (sn := sn) (sub := sub) (ab := ab) (col := col) (dd := dd) (k0 := k0) (k1 := k1) (k2 := k2) (k3 := k3) (k5 := k5)
   PySem.F.excBase_ValueError (mN := mN) (TL.hasType PySem.F.excBase_ValueError.hasBase) hh (by
     show (backTo cpos (starEach (e :: es) (envOfC qual scope s₀.heap.objs.size f cd))).any (·.1) = false
     rw [hs]
     show (false || (backTo cpos (starEach es (envOfC qual scope s₀.heap.objs.size f cd))).any (·.1)) = false
     rw [hpl]
     rfl) hni (xk I hg ex.bound ⟨rfl,?_⟩ hd)
 have h1 := ha cpos pins s σ H _ I h
 show wpAny _ _ (evalArgs (.ref C) true (backTo cpos (starEach (e :: es) (envOfC qual scope s₀.heap.objs.size f cd))) []) _ _ _
 have h1:wpAny _ _ (spliced (backTo cpos (starEach (e :: es) (envOfC qual scope s₀.heap.objs.size f cd)))) _ _ s := h1
 rw [hs] at h1 ⊢
 refine Calls.evalArgs_plain (wpAny_mono h1 (fun us s2 ⟨xs,H2,I2,r,z,q⟩ => ⟨rfl,?_,I2.bk _ _ hC,hN.keeps I2.bk,TL.keeps I2.bk,fun h' e' hx => ?_⟩) fun _ _ y => y)
 · rw [<- r.length]; exact z
 · exact YG I2 hx q
end
theorem Fun.okS {P:Program} {w:World} {K:PySem.W.Frag} {mg:Str -> Option Value} {base:Heap} {x qual:Str} {st:Stmt} {f:Addr} {fd:FuncData} {N ps:List Str} {k:Nat} {sp:Sp} (F:Fun K x qual st f fd) (S:zC N ps (zl st)) (len:∀ vs H Q E,sp vs H Q E -> vs.length = ps.length)
   (hbody:∀ (cdv:Value) (A:Around) (outer:List Env) (s:Shared) (H:Hp) (vs:List V) (Q:VK) (E:XK),Room k (A.deeper (envOfC qual (zl st) s.heap.objs.size f cdv)) -> A.handled = none -> sp vs H Q E ->
     ∃ t,PSs (cxOf (CXS P w) P w K mg base N qual (zl st) f cdv A outer s H E) (zD st) t /\ t { nx := fun _ H' => Q .non H',rt := Q } (start N vs) H):FnOk P w K mg base (CXS P w) (k + 1) f fd ps sp := by
 obtain ⟨oc,od,kV,doc,pm,an,cdv,ct,osl,rfl,lk,hcd⟩ := F.ex
 exact Z8 lk hcd S len fun A outer s H vs Q E hr hsp => hbody cdv A outer s H vs Q E hr hr.hd hsp
noncomputable def Cx.trS (X:Cx) (pl:List (Addr × Obj)) (Ec:Addr -> St -> Hp -> Prop):Cx :=
 { X with pn := X.pn ++ pl,xe := fun e s' => ∃ ea T C σ H,e = .ref ea /\ Inv X pl σ H s' /\ XQ X pl s'.heap H C ea T /\ Nc ea s'.heap /\ Ec C σ H }
theorem Inv.trS {X:Cx} {pl:List (Addr × Obj)} {σ:St} {H:Hp} {s:Shared} (I:Inv X pl σ H s) (Ec:Addr -> St -> Hp -> Prop):Inv (X.trS pl Ec) [] σ H s :=
 ⟨⟨I.ok.mod,I.ok.kind,I.ok.glob,I.ok.blt,I.ok.above,I.ok.inj,I.ok.has,I.ok.cab,I.ok.hd,I.ok.frames,I.ok.stk,I.ok.exf,I.ok.bs,I.ok.bsz,I.ok.noex,I.ok.exfs,I.ok.funs,I.ok.frf⟩,I.os,I.bare,I.base,I.loc,I.cell,I.free,I.freeC,
   fun p hp => I.pin p (by simpa [Cx.trS] using hp),I.hok,I.len⟩
theorem Inv.untrS {X:Cx} {pl pins:List (Addr × Obj)} {σ:St} {H:Hp} {s:Shared} {Ec:Addr -> St -> Hp -> Prop} (I:Inv (X.trS pl Ec) pins σ H s):Inv X pl σ H s :=
 ⟨⟨I.ok.mod,I.ok.kind,I.ok.glob,I.ok.blt,I.ok.above,I.ok.inj,I.ok.has,I.ok.cab,I.ok.hd,I.ok.frames,I.ok.stk,I.ok.exf,I.ok.bs,I.ok.bsz,I.ok.noex,I.ok.exfs,I.ok.funs,I.ok.frf⟩,I.os,I.bare,I.base,I.loc,I.cell,I.free,I.freeC,
   fun p hp => I.pin p (List.mem_append_left _ hp),I.hok,I.len⟩
theorem SP.untrS {X:Cx} {pl pins:List (Addr × Obj)} {Ec:Addr -> St -> Hp -> Prop} {D:Ends} {f:Flow} {s':Shared} (h:SP (X.trS pl Ec) pins D f s'):SP X pl D f s' := by
 cases f with
 | next => obtain ⟨σ',H',I,q⟩ := h; exact ⟨σ',H',I.untrS,q⟩
 | brk => obtain ⟨σ',H',I,q⟩ := h; exact ⟨σ',H',I.untrS,q⟩
 | cont => obtain ⟨σ',H',I,q⟩ := h; exact ⟨σ',H',I.untrS,q⟩
 | ret u => obtain ⟨v,σ',H',I,r,q⟩ := h; exact ⟨v,σ',H',I.untrS,r,q⟩
theorem W3 {X:Cx} {pl:List (Addr × Obj)} {Ec:Addr -> St -> Hp -> Prop} {k:Nat} {f:Addr} {fd:FuncData} {ps:List Str} {sp:Sp} {dvs:List V} {ds:List Value} {x:Str} {p pos:Pos} {e:Expr} {es:List Expr} {t:TA}
   (F:FnOk X.prog X.w X.K X.mg X.base (CXS X.prog X.w) k f fd ps sp) (hr:Room k X.A) (hg:Gl X x) (hm:X.mg x = some (.ref f)) (hk:PySem.W.keepIn X.K (.ref f) = true) (hb:Binds X.K fd ps ds) (hd:Vals dvs ds) (hex:X.ex = [])
   (ha:PA (X.trS pl Ec) (e :: es) t) (hdb:(x == ("__debug__" : Str)) = false := by decide) (he:starEach (e :: es) X.env = (false,eval e X.env) :: starEach es X.env := by rfl) (hpl:(backTo pos (starEach es X.env)).any (·.1) = false := by rfl) :
   PE (X.trS pl Ec) (.Call (.Name x p) (e :: es) [] pos) (WE sp dvs Ec t) := by
 intro pins s σ H Q I h
 refine wpAny_Call_Name_kw (xk (X := X.trS pl Ec) I hg hm ?_ hdb)
 refine PySem.W.callWith_K (h₀ := X.base) I.ok.mod.kin hk (thn (ha pos pins s σ H _ I h) fun us s1 ⟨vs,H1,I1,r,q⟩ => ⟨I1.kIn,?_⟩) he hpl
 have r2:Vals (vs ++ dvs) (us ++ ds) := r.append hd
 have hl:(us ++ ds).length = ps.length := by rw [<- r2.length]; exact F.len _ _ _ _ q
 refine wpAny_call (codeAny_mono (F.run X.A X.stack s1 H1 ⟨us,[]⟩ (us ++ ds) (vs ++ dvs) Q _ hr I1.env0 (hb s1 us I1.kIn hl) r2 q) fun r s' hq => ?_)
 cases r with
 | ok fl =>
   cases fl with
   | ret u => exact I1.after hq
   | next => exact False.elim hq
   | brk => exact False.elim hq
   | cont => exact False.elim hq
 | error e' =>
   obtain ⟨⟨ea,T,C,H',rfl,os,bare,un,hok,fl,C',eC,z⟩,nc⟩ := hq
   cases eC
   have I2:Inv (X.trS pl Ec) pins σ H' s' := I1.call' (ch := []) os un hok bare (fun b z => nomatch z)
   have lo:∀ b o,s1.heap.get? b = some o -> b ≠ ea /\ b ≠ T := fun b o e => ⟨(fun y => by rw [y,fl.ne0] at e; cases e),(fun y => by rw [y,fl.nT0] at e; cases e)⟩
   have s0n:∀ b,s1.heap.get? b = none -> X.s₀.heap.get? b = none := fun b e => by
     cases y:X.s₀.heap.get? b with
     | none => rfl
     | some o =>
       obtain ⟨o',y'⟩ := I1.base.there b o y (by show b ∉ X.ex; rw [hex]; exact fun z => nomatch z)
       rw [e] at y'
       cases y'
   refine ⟨ea,T,C,σ,H',rfl,I2.untrS,⟨fl.ob,fl.ne,fl.fe,fl.fT,⟨s0n _ fl.ne0,s0n _ fl.nT0⟩,?_,fun x c e => ?_,fun p hp => ?_⟩,nc ea rfl,z⟩
   · obtain ⟨m,⟨o,_,_,ho,_⟩,_⟩ := I1.loc
     exact lo _ o ho
   · obtain ⟨v,o,ho,_⟩ := I1.cell x c e
     exact lo c o ho
   · exact lo _ _ (I1.pin p (List.mem_append_left _ hp)).1
noncomputable def Cx.suN (X:Cx) (ea:Addr):Cx := { X with A := X.A.mark (some (.ref ea)),calm := false,xe := notedBy (model X.prog X.w) (X.A.mark (some (.ref ea))) X.env fun e s => cameBackBy (model X.prog X.w) X.A X.env X.xe e s }
theorem Inv.suN {X:Cx} {pins:List (Addr × Obj)} {σ:St} {H:Hp} {s:Shared} (I:Inv X pins σ H s) (ea:Addr):Inv (X.suN ea) pins σ H s :=
 ⟨⟨I.ok.mod,I.ok.kind,I.ok.glob,I.ok.blt,I.ok.above,I.ok.inj,I.ok.has,I.ok.cab,(fun z => nomatch z),I.ok.frames,I.ok.stk,I.ok.exf,I.ok.bs,I.ok.bsz,I.ok.noex,I.ok.exfs,I.ok.funs,I.ok.frf⟩,I.os,I.bare,I.base,I.loc,I.cell,I.free,I.freeC,I.pin,I.hok,I.len⟩
theorem Inv.unsuN {X:Cx} {pins:List (Addr × Obj)} {σ:St} {H:Hp} {s:Shared} {ea:Addr} (hd:X.calm = true -> X.A.handled = none) (I:Inv (X.suN ea) pins σ H s):Inv X pins σ H s :=
 ⟨⟨I.ok.mod,I.ok.kind,I.ok.glob,I.ok.blt,I.ok.above,I.ok.inj,I.ok.has,I.ok.cab,hd,I.ok.frames,I.ok.stk,I.ok.exf,I.ok.bs,I.ok.bsz,I.ok.noex,I.ok.exfs,I.ok.funs,I.ok.frf⟩,I.os,I.bare,I.base,I.loc,I.cell,I.free,I.freeC,I.pin,I.hok,I.len⟩
noncomputable def zbd (CP:Addr -> Prop) (tb:(Addr -> St -> Hp -> Prop) -> TS) (ts:Addr -> TS):TS := fun D σ H => tb (fun C σ1 H1 => CP C /\ ∀ ea,H1 ea = none -> ts ea D σ1 (upd H1 ea (.ext (Nc ea)))) D σ H
theorem JG {X:Cx} {x:Str} {P:Addr} {body:List Stmt} {b₀:Stmt} {suite:List Stmt} {tb:(Addr -> St -> Hp -> Prop) -> TS} {ts:Addr -> TS} {np hpos pos:Pos} (hst:X.stack = X.env :: X.outer) (hf:X.env.frame = some X.env.locals)
   (hg:Gl X x) (hm:X.mg x = some (.ref P)) (cP:yQ X.K P) (hb:∀ pl Ec,PSs (X.trS pl Ec) body (tb Ec)) (hs:∀ ea,PSs (X.suN ea) (b₀ :: suite) (ts ea))
   (hd:(x == ("__debug__" : Str)) = false := by decide) :
   PS X (.Try body [.ExceptHandler (some (.Name x np)) none (b₀ :: suite) hpos] [] [] pos) (zbd (fun C => mroIn X.K C (.ref P) = some true) tb ts) := by
 intro pins s σ H D I h
 refine wpAny_Try_except ?_
 have hB := hb pins _ [] s σ H D (I.trS _) h
 refine wpAny_mono hB (fun f s1 q => ?_) fun e s1 q => ?_
 · have q' := q.untrS
   cases f with
   | next =>
     obtain ⟨σ',H',I',z⟩ := q'
     exact wpAny_execs_nil ⟨σ',H',I',z⟩
   | brk => exact q'
   | cont => exact q'
   | ret u => exact q'
 obtain ⟨ea,T,C,σ1,H1,rfl,I1,fly,nc,hC,q⟩ := q
 obtain ⟨oe,vs,a0,oT,ts',e1,e2,e3,e4,e5,e6,e7,e8⟩ := fly.ob
 have e9:vs[2]? = some .none := by
   obtain ⟨o,vs',z1,z2,z3⟩ := nc
   rw [e1] at z1
   cases z1
   rw [e3] at z2
   cases z2
   exact z3
 have ff:s1.heap.FunFrames (hideAll s1.heap (ea :: T :: frs X.stack)) X.stack := I1.hid _ fun b hb => List.mem_cons_of_mem _ (List.mem_cons_of_mem _ hb)
 have tx:TrX s1.heap (hideAll s1.heap (ea :: T :: frs X.stack)) ea (.ref C) a0 .none := ⟨oe,vs,T,oT,ts',e1,e2,e3,e4,e9,e5,hideAll_none _ (List.mem_cons_of_mem _ List.mem_cons_self),fly.ne,e6,e7,e8⟩
 have st0:Heap.StaysIn (hideAll s1.heap (ea :: T :: frs X.stack)) s1.heap := fun b o z => of_hideAll _ z
 have frA:X.A.frames = some (X.env :: X.outer) := by rw [<- hst]; exact I.ok.frames
 have back:∀ {h':Heap},Heap.StaysIn (hideAll s1.heap (ea :: T :: frs X.stack)) h' -> s1.heap.UpToSlots h' -> Inv X pins σ1 H1 { s1 with heap := h' } := fun {h'} st up => by
   refine I1.exc fly (fun b o n1 n2 n3 z => st b o (hideAll_get _ z ?_)) fun b o n1 z => ?_
   · intro m
     rcases List.mem_cons.mp m with m | m
     · exact n2 m
     · rcases List.mem_cons.mp m with m | m
       · exact n3 m
       · exact n1 m
   · obtain ⟨_,o',ho,hnf⟩ := I1.stack.mem n1
     rw [z] at ho
     cases ho
     exact up b o z hnf
 rw [hst] at ff tx back st0
 refine zbc frA ff hf tx st0 (hideAll_none _ List.mem_cons_self) fun h4 s4 f4 x4 up4 => ?_
 refine Zn s4 f4 x4 fun h5 s5 f5 x5 up5 => ?_
 have I5:Inv X pins σ1 H1 { s1 with heap := h5 } := back s5 (up4.trans up5)
 have J5:yp ea C h5 := by
   obtain ⟨o,_,_,_,_,z1,z2,_⟩ := x5
   exact ⟨o,z1,z2⟩
 refine wpAny_handleBy_cons (codeAny_handlers_test (xk (X := X.su (.ref ea)) (I5.su _) hg hm ?_ hd)) (by intro z; cases z)
 refine js (K := X.K) (P := P) I5.kIn J5 cP hC ?_
 refine codeAny_handlers_suite ?_
 refine Zn s5 f5 x5 fun h6 s6 f6 x6 up6 => ?_
 have I6:Inv X pins σ1 H1 { s1 with heap := h6 } := back s6 ((up4.trans up5).trans up6)
 have I7:Inv X pins σ1 (upd H1 ea (.ext (Nc ea))) { s1 with heap := h6 } := I6.track fly.fe fly.s0.1 fly.lo.1.symm (fun x c e => (fly.ce x c e).1) (fun p hp => (fly.pi p hp).1) (Nc.ok x6.nc)
 refine wpAny_mono (hs ea pins _ _ _ _ (I7.suN _) (q ea fly.fe)) (fun f s9 q9 => ?_) fun _ _ z => z
 cases f with
 | next =>
   obtain ⟨σ9,H9,I9,z⟩ := q9
   exact ⟨_,H9,I9.unsuN I.ok.hd,z⟩
 | brk =>
   obtain ⟨σ9,H9,I9,z⟩ := q9
   exact ⟨_,H9,I9.unsuN I.ok.hd,z⟩
 | cont =>
   obtain ⟨σ9,H9,I9,z⟩ := q9
   exact ⟨_,H9,I9.unsuN I.ok.hd,z⟩
 | ret u =>
   obtain ⟨v,σ9,H9,I9,r,z⟩ := q9
   exact ⟨v,_,H9,I9.unsuN I.ok.hd,r,z⟩
section
variable {M:Model} {A:Around} {E:Value -> Shared -> Prop} {s:Shared} {base:Heap} {env:Env} {outer:List Env} {L e:Addr}
theorem Xz {l:List Env} {cls a0 fl:Value} {Q:Unit -> Shared -> Prop} (fr:Option Addr) (hkb:base.StaysIn s.heap) (hl:s.heap.FunFrames base l) (ht:s.heap.TracedAtW base e cls a0 fl)
   (h:∀ h',base.StaysIn h' -> h'.FunFrames base l -> h'.TracedAtW base e cls a0 (fr.elim .none fun f => rawInt f) -> s.heap.UpToSlots h' -> Q () { s with heap := h' }):wpAny M A (setFlight (.ref e) fr) Q E s := by
 obtain ⟨oe,vs,T,oT,ts,he,hc,hd,h1,nT,ne,hT,hdT,h3⟩ := ht
 have z3:3 < ts.size := (Array.getElem?_eq_some_iff.mp h3).1
 have oth:∀ b,b ≠ T -> (s.heap.update T (Obj.mapFields (·.setIfInBounds 3 (fr.elim Value.none fun f => rawInt f)))).get? b = s.heap.get? b := fun b nb => Heap.get?_update_other _ _ (Ne.symm nb)
 have noR:∀ b o,s.heap.get? b = some o -> (∀ vs,o.data ≠ .fields vs) -> b ≠ T := fun b o hb nf z => by
   rw [z,hT] at hb
   cases hb
   exact nf ts hdT
 unfold setFlight
 refine wpAny_bind (wpAny_field he hd h1 ?_)
 rw [if_pos (by simp)]
 exact wpAny_setField hT hdT z3 (h _ (fun b o z => (oth b fun y => by rw [y,nT] at z; cases z).trans (hkb b o z)) (hl.of_keeps fun b o hb nf => ⟨o,(oth b (noR b o hb nf)).trans hb,rfl⟩)
   ⟨oe,vs,T,_,_,(oth e (Ne.symm ne)).trans he,hc,hd,h1,nT,ne,Heap.get?_update_self _ hT (Obj.isFreed_of_fields (Obj.data_mapFields hdT _)),Obj.data_mapFields hdT _,by simp [z3]⟩ fun b o hb nf => ⟨o.slots,(oth b (noR b o hb nf)).trans hb⟩)
end
section
variable {P:Program} {w:World} {K:PySem.W.Frag} {mg:Str -> Option Value} {base:Heap} {N:List Str} {qual:Str} {scope:Scope} {f:Addr} {cd:Value} {A:Around} {outer:List Env} {s₀:Shared} {H₀:Hp} {E:XK}
theorem YH {pins:List (Addr × Obj)} {σ:St} {H:Hp} {s:Shared} {C e ea:Addr} {oe:Obj} {vs:Array Value} {a0:Value} {h':Heap} (I:Inv (cxOf (CXE P w) P w K mg base N qual scope f cd A outer s₀ H₀ E) pins σ H s)
   (hk:∀ b o,s.heap.get? b = some o -> h'.get? b = some o) (new:s.heap.get? e = none) (he:h'.get? e = some oe) (hc:oe.cls = .ref C) (hd:oe.data = .fields vs) (h1:vs[1]? = some .none) (h0:vs[0]? = some a0) (q:E (.ref C) none H) :
   ((cxOf (CXE P w) P w K mg base N qual scope f cd A outer s₀ H₀ E).suN ea).xe (.ref e) { s with heap := h' } := by
 have hin:∀ b ∈ frs (envOfC qual scope s₀.heap.objs.size f cd :: outer),b ∈ frs (envOfC qual scope s₀.heap.objs.size f cd :: outer) := fun _ z => z
 have ff := I.hid _ hin
 have nB:(PySem.W.hideAll s.heap (frs (envOfC qual scope s₀.heap.objs.size f cd :: outer))).get? e = none := by
   cases z:(PySem.W.hideAll s.heap (frs (envOfC qual scope s₀.heap.objs.size f cd :: outer))).get? e with
   | none => rfl
   | some o =>
     have := PySem.W.of_hideAll _ z
     rw [new] at this
     cases this
 show wpAny _ _ (noteFrame _ _) _ _ _
 unfold noteFrame
 simp only [show (cxOf (CXE P w) P w K mg base N qual scope f cd A outer s₀ H₀ E).env.frame = some s₀.heap.objs.size from rfl]
 refine wpAny_bind (wpAny_field he hd h1 ?_)
 rw [if_neg (by decide)]
 refine wpAny_entryW (a0 := a0) I.ok.frames (ff.of_keeps fun b o hb _ => ⟨o,hk b o hb,rfl⟩) rfl he (fun b o z => hk b o (PySem.W.of_hideAll _ z)) nB hd (Array.getElem?_eq_some_iff.mp h1).1 h0 fun h4 n4 => ?_
 obtain ⟨s4,f4,t4,u4⟩ := n4
 rw [hc] at t4
 unfold cameBackBy
 obtain ⟨oe4,vs4,T4,oT4,ts4,a1,a2,a3,a4,a5⟩ := t4
 refine wpAny_bind (wpAny_field a1 a3 a4 ?_)
 rw [if_neg (by simp)]
 refine Xz (some s₀.heap.objs.size) s4 f4 ⟨oe4,vs4,T4,oT4,ts4,a1,a2,a3,a4,a5⟩ fun h5 s5 f5 t5 u5 => ?_
 show wpAny _ _ (leaving _ _) _ _ _
 unfold leaving
 refine wpAny_bind (wpAny_noteFrame_againW rfl t5 ?_)
 refine Xz none s5 f5 t5 fun h6 s6 f6 t6 u6 => ?_
 have u4':h'.UpToSlots h4 := u4
 have z := YF I hk new s6 t6 ((u4'.trans u5).trans u6) q
 exact z
noncomputable def JH (ea C:Addr) (t:TA) (E:XK):TS := fun _ σ H => t σ H fun xs H1 => xs.length <= sizeLine /\ H1 ea = some (.ext (Nc ea)) /\ E (.ref C) none H1
theorem W4 {x:Str} {C ea:Addr} {e:Expr} {es:List Expr} {t:TA} {np cpos pos p3:Pos} {kk:Nat} (ex:Exc K mg x C) (hh:A.handled = none) (hg:Gl (cxOf (CXE P w) P w K mg base N qual scope f cd A outer s₀ H₀ E) x)
   (ha:PA ((cxOf (CXE P w) P w K mg base N qual scope f cd A outer s₀ H₀ E).suN ea) (e :: es) t)
   (hs:starEach (e :: es) (envOfC qual scope s₀.heap.objs.size f cd) = (false,eval e (envOfC qual scope s₀.heap.objs.size f cd)) :: starEach es (envOfC qual scope s₀.heap.objs.size f cd) := by rfl)
   (hpl:(backTo cpos (starEach es (envOfC qual scope s₀.heap.objs.size f cd))).any (·.1) = false := by rfl) (hd:(x == ("__debug__" : Str)) = false := by decide) :
   PS ((cxOf (CXE P w) P w K mg base N qual scope f cd A outer s₀ H₀ E).suN ea) (.Raise (some (.Call (.Name x np) (e :: es) [] cpos)) (some (.Constant .none kk p3)) pos) (JH ea C t E) := by
 intro pins s σ H D I h
 obtain ⟨bm,N',nm,qn,bs,hdct,sn,sub,ab,col,dd,k0,k1,k2,k3,k5,mN,hC,hN,hni,TL⟩ := Zc (h := base) I.mod.kin ex.ex
 refine Xh (C := C) (ea := ea) (nm := nm) (q := qn) (N := N') (bs := bs) (bm := bm) (hdct := hdct) (sn := sn) (sub := sub) (ab := ab) (col := col) (dd := dd) (k0 := k0) (k1 := k1) (k2 := k2) (k3 := k3) (k5 := k5)
   PySem.F.excBase_ValueError (mN := mN) (TL.hasType PySem.F.excBase_ValueError.hasBase) rfl (by
     show (backTo cpos (starEach (e :: es) (envOfC qual scope s₀.heap.objs.size f cd))).any (·.1) = false
     rw [hs]
     show (false || (backTo cpos (starEach es (envOfC qual scope s₀.heap.objs.size f cd))).any (·.1)) = false
     rw [hpl]
     rfl) hni (xk I hg ex.bound ⟨rfl,?_⟩ hd)
 have h1 := ha cpos pins s σ H _ I h
 show wpAny _ _ (evalArgs (.ref C) true (backTo cpos (starEach (e :: es) (envOfC qual scope s₀.heap.objs.size f cd))) []) _ _ _
 have h1:wpAny _ _ (spliced (backTo cpos (starEach (e :: es) (envOfC qual scope s₀.heap.objs.size f cd)))) _ _ s := h1
 rw [hs] at h1 ⊢
 refine Calls.evalArgs_plain (wpAny_mono h1 (fun us s2 ⟨xs,H2,I2,r,z,y,q⟩ => ⟨rfl,?_,I2.bk _ _ hC,hN.keeps I2.bk,TL.keeps I2.bk,(I2.hok _ _ y).1,fun h' e' t' k1 k2 k3 => ?_⟩) fun _ _ y => y)
 · rw [<- r.length]; exact z
 · exact YH (I2.unsuN fun _ => hh) k1 k2 k3 rfl rfl rfl rfl q
end
end _L2
namespace _K4
open PySem _L2 _Til
theorem zaJ {bs:List Bx} {M:Int} (h:∀ b ∈ bs,0 <= area b /\ area b <= M):∀ k,0 <= ((bs.map area).take k).sum /\ ((bs.map area).take k).sum <= bs.length * M := by
 induction bs with
 | nil => intro k; simp
 | cons b bs ih =>
   intro k
   have hb := h b List.mem_cons_self
   have ih := ih fun c hc => h c (List.mem_cons_of_mem _ hc)
   have e:(((b :: bs).length:Nat):Int) * M = bs.length * M + M := by
     rw [List.length_cons,Int.natCast_add,Int.add_mul]
     simp
   rw [e]
   cases k with
   | zero =>
     have := (ih 0).2
     simp only [List.take_zero,List.sum_nil] at this ⊢
     omega
   | succ k =>
     have := ih k
     rw [List.map_cons,List.take_succ_cons,List.sum_cons]
     omega
theorem X3 {b:Bx} {W G:Int} (h1:b.l < b.r /\ b.t < b.b) (h2:0 <= b.l /\ b.r <= W /\ 0 <= b.t /\ b.b <= G) (hW:W <= 2 ^ 28) (hG:G <= 2 ^ 28):0 <= area b /\ area b <= 2 ^ 56 := by
 have a1:0 <= b.r - b.l := by omega
 have a2:b.r - b.l <= 2 ^ 28 := by omega
 have a3:0 <= b.b - b.t := by omega
 have a4:b.b - b.t <= 2 ^ 28 := by omega
 unfold area
 refine ⟨Int.mul_nonneg a1 a3,?_⟩
 have := Int.mul_le_mul a2 a4 a3 (by decide)
 exact this
theorem ZS {H:Hp}:∀ {us:List V} {os:List (Option Bx)},qo H us os -> (∀ o ∈ os,boxO o = true) -> ∃ bs:List Bx,os = bs.map some /\ zm H us bs
 | _,_,.nil,_ => ⟨[],rfl,.nil⟩
 | _,o :: os,.cons h t,hb => by
   obtain ⟨bs,e,hB⟩ := ZS t fun o ho => hb o (List.mem_cons_of_mem _ ho)
   have h1 := hb o List.mem_cons_self
   cases h with
   | @box _ b hx => exact ⟨b :: bs,by rw [e]; rfl,.cons hx hB⟩
   | num i => cases h1
   | odd h ne => cases h1
   | len h ne => cases h1
   | four h hl ho bad => cases h1
theorem qQ:∀ {as bs:List Bx},as.map some = bs.map some -> as = bs
 | [],[],_ => rfl
 | [],_ :: _,h => by cases h
 | _ :: _,[],h => by cases h
 | a :: as,b :: bs,h => by
   rw [List.map_cons,List.map_cons,List.cons.injEq] at h
   rw [Option.some.inj h.1,qQ h.2]
section
variable {P:Program} {w:World} {K:PySem.W.Frag} {mg:Str -> Option Value} {base:Heap}
theorem zaK:zC ["boxes","wide","high"] ["boxes","wide","high"] (zl jd) := ⟨rfl,rfl,rfl,by decide +kernel,rfl,by decide +kernel,by decide +kernel⟩
theorem JI {f fW fA fR:Addr} {fd fdW fdA fdR:FuncData} (F:Fun K "fill" "fill" jd f fd) (Z:Nm K mg) (Wi:Callee P w K mg base CX0 1 "is_within" fW fdW ["box","wide","high"] jH) (An:Callee P w K mg base CX0 2 "any_overlap" fA fdA ["boxes"] XY)
   (Ar:Callee P w K mg base CX0 1 "area" fR fdR ["box"] YB):FnOk P w K mg base CX0 3 f fd ["boxes","wide","high"] YC := by
 obtain ⟨gLEFT,gTOP,gRIGHT,gBELOW,gMOST_BOXES,ti,tint,tbool,ttup,tlist,tl,tall,tany,tsum,ts,te,ib,tt,ki,kb,kt⟩ := Z
 refine F.ok zaK (fun vs H Q E h => ?_) (fun cdv A outer s H vs Q E hr h => ?_)
 · obtain ⟨l,us,bs,W,G,rfl,_⟩ := h
   rfl
 · obtain ⟨l,us,bs,W,G,rfl,hl,hB,hlen,wf,hW1,hW,hG1,hG,qT,qF⟩ := h
   refine ⟨_,(zg (zU (PW.pt (xy (yz (yu (zo (xZ rfl) (by rfl) tall PyProof.Rows.boot_all (za (yW (Nc := ["box","wide","high"]) (ix := [none,some 1,some 2]) rfl rfl (by refine' yo ?zz; case zz => exact (pv 0)) (fun _ _ _ _ _ => (zp (i := 0) (by show (["box","wide","high"]:List Str).Nodup; decide +kernel) rfl (Or.inl rfl))) (fun _ _ _ _ _ => yK) (fun _ _ _ _ _ => (zF Wi.ok (hr.mono (by decide)) rfl Wi.bound Wi.kp Wi.bd .nil zV (za (pv 0) (za (pv 1) (za (pv 2) zb)))))) zb)))) (xh (yu (zF An.ok hr rfl An.bound An.kp An.bd .nil zV (za (pv 0) zb))))))
     (zh (zw yT))
     zO)
     (zh (zw (ye yY (zo (WT rfl) (by rfl) tsum PyProof.Rows.boot_sum (za (yW (Nc := ["box"]) (ix := [none]) rfl rfl (by refine' yo ?zz; case zz => exact (pv 0)) (fun _ _ _ _ _ => (zp (i := 0) (by show (["box"]:List Str).Nodup; decide +kernel) rfl (Or.inl rfl))) (fun _ _ _ _ _ => yK) (fun _ _ _ _ _ => (zF Ar.ok (hr.mono (by decide)) rfl Ar.bound Ar.kp Ar.bd .nil zV (za (pv 0) zb)))) zb)) (zk xV (pv 1) (pv 2)) (zr _))))),?_⟩
   have lu := hB.len
   refine ⟨_,rfl,l,rfl,⟨_,SqL.of hl⟩,yI (K := K) (a := l) (xs := us) (fun i ys σ H' => ys = (bs.take i).map (fun b => V.bl (yL b W G)) /\ Same H H' /\ ∃ o,σ = [o,some (.int W),some (.int G)])
     ⟨rfl,Same.refl _,none,rfl⟩ (fun i ys σ H' hi h9 => by obtain ⟨e,S,_⟩ := h9; exact (⟨by rw [e,List.length_map,List.length_take]; exact Nat.le_trans (show _ <= 1000 by omega) (by decide),SqL.of (S _ _ hl)⟩)) ?_ ?_⟩
   · rintro ys σ H' ⟨e,S,_⟩ la nl
     rw [lu,List.take_length] at e
     subst e
     have S2 := S.trans (zf (o := .lst (bs.map fun b => V.bl (yL b W G))) nl)
     refine ⟨la,bs.map (fun b => yL b W G),rfl,SqL.of (by rw [zd,List.map_map]; rfl),?_⟩
     rw [List.all_map]
     generalize upd H' la (.lst (bs.map fun b => V.bl (yL b W G))) = H2 at S2
     have wi:∀ {b:Bx},yL b W G = true ↔ 0 <= b.l /\ b.r <= W /\ 0 <= b.t /\ b.b <= G := fun {b} => by
       unfold yL
       simp only [Bool.and_eq_true,decide_eq_true_eq]
     refine ⟨_,rfl,?_⟩
     cases hall:bs.all (id ∘ fun b => yL b W G) with
     | false =>
       refine iteT ?_
       refine qF (fun z => ?_) _ S2
       have:bs.all (id ∘ fun b => yL b W G) = true := List.all_eq_true.mpr fun b hb => wi.mpr (z.1 b hb)
       rw [hall] at this
       cases this
     | true =>
       have hin:∀ b ∈ bs,0 <= b.l /\ b.r <= W /\ 0 <= b.t /\ b.b <= G := fun b hb => wi.mp (List.all_eq_true.mp hall b hb)
       refine iteF ?_
       refine ⟨_,rfl,l,us,bs,rfl,S2 _ _ hl,hB.same S2,by omega,fun pw H3 S3 => ⟨_,rfl,iteF ?_⟩,fun pw H3 S3 => ⟨_,rfl,iteT (qF (fun z => pw z.2.1) _ (S2.trans S3))⟩⟩
       have S23 := S2.trans S3
       have ab:∀ b ∈ bs,0 <= area b /\ area b <= 2 ^ 56 := fun b hb => X3 (wf b hb) (hin b hb) hW hG
       refine ⟨_,rfl,l,rfl,⟨_,SqL.of (S23 _ _ hl)⟩,yI (K := K) (a := l) (xs := us) (fun i ys σ H' => ys = (bs.take i).map (fun b => V.int (area b)) /\ Same H3 H' /\ ∃ o,σ = [o])
         ⟨rfl,Same.refl _,none,rfl⟩ (fun i ys σ H' hi h9 => by obtain ⟨e,S,_⟩ := h9; exact (⟨by rw [e,List.length_map,List.length_take]; exact Nat.le_trans (show _ <= 1000 by omega) (by decide),SqL.of (S _ _ (S23 _ _ hl))⟩)) ?_ ?_⟩
       · rintro ys σ H' ⟨e,S,_⟩ lb nb
         rw [lu,List.take_length] at e
         subst e
         have S5 := (S23.trans S).trans (zf (o := .lst (bs.map fun b => V.int (area b))) nb)
         have sl := zaJ ab
         refine ⟨lb,bs.map area,rfl,SqL.of (by rw [zd,List.map_map]; rfl),fun z hz => ?_,fun k hk => ?_,?_⟩
         · obtain ⟨b,hb,rfl⟩ := List.mem_map.mp hz
           have := ab b hb
           omega
         · have := sl k
           omega
         · refine ⟨_,rfl,_,rfl,_,_,rfl,rfl,.inl ⟨by omega,by omega⟩,rfl,?_⟩
           have e:decide (V.int (bs.map area).sum = V.int (W * G)) = decide ((bs.map area).sum = W * G) := by
             rw [decide_eq_decide]
             exact ⟨fun z => V.int.inj z,fun z => by rw [z]⟩
           rw [e]
           by_cases hs:(bs.map area).sum = W * G
           · rw [decide_eq_true hs]
             exact qT ⟨hin,pw,hs⟩ _ S5
           · rw [decide_eq_false hs]
             exact qF (fun z => hs z.2.2) _ S5
       · rintro i x ys σ H' hx ⟨e,S,o,rfl⟩
         subst e
         have hil:i < bs.length := by rw [<- lu]; exact (List.getElem?_eq_some_iff.mp hx).1
         have eb:bs[i]? = some bs[i] := List.getElem?_eq_getElem hil
         have mb:bs[i] ∈ bs := List.getElem_mem hil
         generalize bs[i] = b at eb mb
         obtain ⟨v,hv,hb⟩ := hB.get eb
         rw [hx] at hv
         cases hv
         dsimp only [zG,tYes]
         refine iteT ?_
         have a1 := wf b mb
         have a2 := hin b mb
         exact ⟨_,rfl,x,b,rfl,hb.same (S23.trans S),by omega,WX area eb,S,_,rfl⟩
   · rintro i x ys σ H' hx ⟨e,S,o,rfl⟩
     subst e
     have hil:i < bs.length := by rw [<- lu]; exact (List.getElem?_eq_some_iff.mp hx).1
     have eb:bs[i]? = some bs[i] := List.getElem?_eq_getElem hil
     generalize bs[i] = b at eb
     obtain ⟨v,hv,hb⟩ := hB.get eb
     rw [hx] at hv
     cases hv
     dsimp only [zG,tYes]
     refine iteT ?_
     exact ⟨_,rfl,_,rfl,_,rfl,x,b,W,G,rfl,hb.same S,wm (fun b => yL b W G) eb,S,_,rfl⟩
theorem zaL:zC ["wide","high","boxes"] ["wide","high","boxes"] (zl je) := ⟨rfl,rfl,rfl,by decide +kernel,rfl,by decide +kernel,by decide +kernel⟩
theorem JJ {f fL fB fF fT C:Addr} {fd fdL fdB fdF fdT:FuncData} (F:Fun K "make_page" "make_page" je f fd) (Z:Nm K mg) (ex:Exc K mg "NoPage" C) (Le:Callee P w K mg base CX0 2 "is_length" fL fdL ["thing"] jG)
   (Be:Callee P w K mg base CX0 3 "are_boxes" fB fdB ["things"] XX) (Fi:Callee P w K mg base CX0 3 "fill" fF fdF ["boxes","wide","high"] YC) (Tt:Callee P w K mg base CX0 1 "top_then_left" fT fdT ["box"] XZ) :
   FnOk P w K mg base (CXS P w) 4 f fd ["wide","high","boxes"] (YD C) := by
 obtain ⟨gLEFT,gTOP,gRIGHT,gBELOW,gMOST_BOXES,ti,tint,tbool,ttup,tlist,tl,tall,tany,tsum,ts,te,ib,tt,ki,kb,kt⟩ := Z
 refine F.okS zaL (fun vs H Q E h => ?_) (fun cdv A outer s H vs Q E hr hh h => ?_)
 · obtain ⟨v,u,ow,og,l,us,os,rfl,_⟩ := h
   rfl
 · obtain ⟨v,u,ow,og,l,us,os,rfl,hv,hu,hl,hT,hlen,hW,hG,q,qe⟩ := h
   refine ⟨_,(zg (zU (PW.pt (xy (yz (yu (zF Le.ok (hr.mono (by decide)) rfl Le.bound Le.kp Le.bd .nil zV (za (pv 0) zb)))) (xh (yz (yu (zF Le.ok (hr.mono (by decide)) rfl Le.bound Le.kp Le.bd .nil zV (za (pv 1) zb)))))))
     (zh (qO ex hh rfl (za zP zb)))
     zO)
     (zg (zU (yz (yu (zF Be.ok (hr.mono (by decide)) rfl Be.bound Be.kp Be.bd .nil zV (za (pv 2) zb))))
     (zh (qO ex hh rfl (za zP zb)))
     zO)
     (zg (zU (yz (yu (zF Fi.ok hr rfl Fi.bound Fi.kp Fi.bd .nil zV (za (pv 2) (za (pv 0) (za (pv 1) zb))))))
     (zh (qO ex hh rfl (za zP zb)))
     zO)
     (zh (zw (zS (za (pv 0) (za (pv 1) (za (xC qu rfl ttup PyProof.Rows.boot_tuple (za (QU Tt.ok Tt.bd (hr.mono (by decide)) rfl ts rfl Tt.bound (pv 2)) zb)) zb))))))))),?_⟩
   have lu := hT.len
   have bad:∀ {H':Hp},¬ Jm ow og os -> Same H H' -> ([V.str "x"].length <= sizeLine /\ E (.ref C) none H') := fun n S => ⟨by show 1 <= sizeLine; decide,qe n _ S⟩
   refine ⟨_,rfl,v,ow,rfl,hv,_,rfl,?_⟩
   refine ite2 (fun c1 => ?_) (fun c1 => ?_)
   · refine iteT ?_
     refine bad (fun p => ?_) (Same.refl _)
     obtain ⟨W,G,bs,rfl,rfl,rfl,pg⟩ := p
     have:lenO (some W) = true := decide_eq_true pg.w
     rw [this] at c1
     cases c1
   have c1:lenO ow = true := by
     revert c1
     cases lenO ow
     · intro z; exact absurd rfl z
     · intro _; rfl
   refine ⟨_,rfl,u,og,rfl,hu,_,rfl,?_⟩
   refine ite2 (fun c2 => ?_) (fun c2 => ?_)
   · refine bad (fun p => ?_) (Same.refl _)
     obtain ⟨W,G,bs,rfl,rfl,rfl,pg⟩ := p
     have:lenO (some G) = true := decide_eq_true pg.g
     rw [this] at c2
     cases c2
   have c2:lenO og = true := by
     revert c2
     cases lenO og
     · intro z; exact absurd rfl z
     · intro _; rfl
   obtain ⟨W,rfl⟩ : ∃ W,ow = some W := by
     cases ow with
     | none => cases c1
     | some W => exact ⟨W,rfl⟩
   obtain ⟨G,rfl⟩ : ∃ G,og = some G := by
     cases og with
     | none => cases c2
     | some G => exact ⟨G,rfl⟩
   have c1:1 <= W := of_decide_eq_true c1
   have c2:1 <= G := of_decide_eq_true c2
   have hW := hW W rfl
   have hG := hG G rfl
   obtain rfl:v = .int W := by cases hv; rfl
   obtain rfl:u = .int G := by cases hu; rfl
   refine ⟨_,rfl,l,us,os,rfl,hl,hT,hlen,fun H1 S1 => ⟨_,rfl,?_⟩⟩
   refine ite2 (fun c3 => ?_) (fun c3 => ?_)
   · refine bad (fun p => ?_) S1
     obtain ⟨W',G',bs,e1,e2,rfl,pg⟩ := p
     have:(decide (1 <= (bs.map some).length) && decide ((bs.map some).length <= 24) && (bs.map some).all boxO) = true := by
       rw [List.length_map,decide_eq_true pg.n1,decide_eq_true pg.n24,List.all_map,List.all_eq_true.mpr fun b hb => by show boxB b = true; unfold boxB; rw [decide_eq_true (pg.wf b hb).1,decide_eq_true (pg.wf b hb).2]; rfl]
       rfl
     rw [this] at c3
     cases c3
   have c3:(decide (1 <= os.length) && decide (os.length <= 24) && os.all boxO) = true := by
     revert c3
     cases (decide (1 <= os.length) && decide (os.length <= 24) && os.all boxO)
     · intro z; exact absurd rfl z
     · intro _; rfl
   rw [Bool.and_eq_true,Bool.and_eq_true,decide_eq_true_eq,decide_eq_true_eq,List.all_eq_true] at c3
   obtain ⟨bs,rfl,hB⟩ : ∃ bs:List Bx,os = bs.map some /\ zm H us bs := ZS hT c3.2
   rw [List.length_map] at c3 hlen lu
   have wf:∀ b ∈ bs,b.l < b.r /\ b.t < b.b := fun b hb => by
     have := c3.2 (some b) (List.mem_map.mpr ⟨b,hb,rfl⟩)
     have this:boxB b = true := this
     unfold boxB at this
     rw [Bool.and_eq_true,decide_eq_true_eq,decide_eq_true_eq] at this
     exact this
   have nope:∀ {W' G':Int} {bs':List Bx},some W = some W' -> some G = some G' -> bs.map some = bs'.map some -> W' = W /\ G' = G /\ bs' = bs := fun {W' G' bs'} e1 e2 e3 => ⟨(Option.some.inj e1).symm,(Option.some.inj e2).symm,(qQ e3).symm⟩
   refine ⟨_,rfl,_,rfl,_,rfl,l,us,bs,W,G,rfl,S1 _ _ hl,hB.same S1,c3.1.2,wf,c1,hW,c2,hG,fun fl H2 S2 => ⟨_,rfl,iteF ?_⟩,fun nf H2 S2 => ⟨_,rfl,iteT (bad (fun p => ?_) (S1.trans S2))⟩⟩
   · skip
     have pg:Page W G bs := ⟨c1,c2,c3.1.1,c3.1.2,wf,fl.1,fl.2.1,fl.2.2⟩
     have S12 := S1.trans S2
     have hB2 := hB.same S12
     refine ⟨_,rfl,_,rfl,_,rfl,l,us,bs.map (fun b => (b.t,b.l)),W + 1,rfl,SqL.of (S12 _ _ hl),by omega,by omega,by rw [List.length_map]; omega,fun z hz => ?_,fun i x z H' R hx hz S' k => ?_,fun D p H' S' hD po pu => ?_⟩
     · obtain ⟨b,hb,rfl⟩ := List.mem_map.mp hz
       have := fl.1 b hb
       have := wf b hb
       exact ⟨by simp only; omega,by simp only; omega⟩
     · rw [List.getElem?_map] at hz
       cases e:bs[i]? with
       | none => rw [e] at hz; cases hz
       | some b =>
         rw [e] at hz
         cases hz
         obtain ⟨v,hv,hb⟩ := hB2.get e
         rw [hx] at hv
         cases hv
         exact ⟨x,b,rfl,hb.same S',fun p H'' S'' h'' => k p H'' S'' h''⟩
     · rw [lu] at po pu
       have SD := zf (o := .lst (p.toList.map fun i => us.getD i .non)) hD
       refine ⟨D,_,rfl,.inl ⟨SqL.of zd,fun tb ntb => ⟨by show 3 <= sizeLine; decide,fun pa npa => ?_⟩⟩⟩
       have ST := zf (o := .tup (p.toList.map fun i => us.getD i .non)) ntb
       have SP := zf (o := .tup [.int W,.int G,.ref tb]) npa
       have SA := SD.trans (ST.trans SP)
       refine q W G bs rfl rfl rfl pg pa (picked bx0 p bs) _ (S12.trans (S'.trans SA)) ⟨tb,_,zd,SP _ _ zd,wF ((hB2.same S').same SA) po,by rw [qk po]; exact pg.n24⟩ (xT po) (x9 po (fun b hb => ?_) pu)
       have := fl.1 b hb
       have := wf b hb
       omega
   · obtain ⟨W',G',bs',e1,e2,e3,pg⟩ := p
     obtain ⟨rfl,rfl,rfl⟩ := nope e1 e2 e3
     exact nf ⟨pg.within,pg.apart,pg.full⟩
end
end _K4
namespace _L2
open PySem PySem.Spec PyProof.Rows PySem.W
end _L2
namespace _L2
open PySem PySem.Spec PyProof.Rows PySem.W
noncomputable def txt (l:List Nat):Str := ⟨l.toArray⟩
theorem zA (l:List Nat):(txt l).length = l.length := by simp [txt,Str.length]
theorem Zo {a b:List Nat} (h:txt a = txt b):a = b := by
 have:(txt a).cps.toList = (txt b).cps.toList := by rw [h]
 simpa [txt] using this
theorem ZT (c:Nat):∀ (n:Nat) (acc:Array Nat),(List.replicate n (#[c]:Array Nat)).foldl (· ++ ·) acc = acc ++ (List.replicate n c).toArray
 | 0,acc => by simp
 | n + 1,acc => by
   rw [List.replicate_succ,List.foldl_cons,ZT c n (acc ++ #[c])]
   apply Array.toList_inj.mp
   simp [List.replicate_succ]
theorem YI {c:Nat} {n:Int} (h0:0 <= n):Txt.mul (txt [c]) n = txt (List.replicate n.toNat c) := by
 unfold Txt.mul
 by_cases h1:n < 1
 · rw [if_pos h1]
   have e:n.toNat = 0 := by omega
   rw [e]
   rfl
 · rw [if_neg h1]
   by_cases h2:n = 1
   · subst h2
     rfl
   · have e:(n == 1 || (txt [c]).length == 0) = false := by
       rw [beq_eq_false_iff_ne.mpr h2]
       rfl
     rw [e,if_neg Bool.false_ne_true]
     have := ZT c n.toNat #[]
     show (⟨(List.replicate n.toNat (#[c]:Array Nat)).foldl (· ++ ·) #[]⟩ : Str) = _
     rw [this]
     simp [txt]
section
variable {X:Cx}
theorem JK:OpR X (binaryOp .Mult) (fun x y H Q => ∃ (c:Nat) (n:Int),x = .str (txt [c]) /\ y = .int n /\ 0 <= n /\ n <= 1000000 /\ Q (.str (txt (List.replicate n.toNat c))) H) := by
 intro pins s σ H x y v u Q I rx ry h
 obtain ⟨c,n,rfl,rfl,h0,h1,q⟩ := h
 obtain ⟨t,rfl⟩ := rx
 obtain ⟨t',rfl⟩ := ry
 have hl:(txt [c]).length = 1 := rfl
 refine SB.mul ⟨?_,fun _ _ => ?_,fun _ _ => ?_⟩ fun tk k => ⟨.str _,H,I.tok k,⟨tk,by rw [YI h0]⟩,q⟩
 · rw [decide_eq_false (by omega),decide_eq_false (by omega)]
   rfl
 · rw [hl]
   have hn:0 < n := by omega
   intro z
   have z':(2 ^ 63 - 1) / n < 1 := by simpa using z
   have := (Int.ediv_lt_iff_lt_mul hn).mp z'
   omega
 · rw [hl]
   unfold Builtin.Str.tooLong sizeLine
   rw [decide_eq_false_iff_not]
   omega
theorem ZU:∀ {zs:List Str} {us:List Value},Vals (zs.map V.str) us -> StrsAre us zs
 | [],_,.nil => .nil
 | z :: zs,_,.cons ⟨t,e⟩ r => by
   subst e
   exact .cons z t (ZU r)
theorem ZV:∀ (ls:List (List Nat)),Str.join Str.empty (ls.map txt) = txt ls.flatten
 | [] => rfl
 | [a] => by
   show txt a = txt (a ++ [])
   rw [List.append_nil]
 | a :: b :: r => by
   have ih := ZV (b :: r)
   show txt a ++ Str.empty ++ Str.join Str.empty ((b :: r).map txt) = _
   rw [ih,Str.append_empty]
   refine Str.ext' ?_
   rw [Str.cps_append]
   apply Array.toList_inj.mp
   simp [txt]
theorem qq:MtR X "str.join" (fun x vs H Q => ∃ (a:Addr) (ls:List (List Nat)),x = .str "" /\ vs = [.ref a] /\ SqL X.K H a (ls.map fun l => V.str (txt l)) /\ (ls.map List.length).sum <= 1000000 /\ Q (.str (txt ls.flatten)) H) := by
 intro pins s σ H x xs v us Q I rx rxs h
 obtain ⟨a,ls,rfl,rfl,hq,hn,q⟩ := h
 obtain ⟨t,rfl⟩ := rx
 obtain ⟨u,rfl,ru⟩ := vals1 rxs
 cases ru
 obtain ⟨its,rv,tp,hz⟩ := I.list hq
 have rv':Vals ((ls.map txt).map V.str) its := by rw [List.map_map]; exact rv
 refine join_list (ys := ls.map txt) tp.isList (by simpa using ZU rv') ?_ fun t' k => ⟨.str _,H,I.tok k,⟨t',?_⟩,q⟩
 · rw [List.map_map]
   have e1:(ls.map ((fun x => x.length) ∘ txt)) = ls.map List.length := List.map_congr_left fun l _ => zA l
   rw [e1]
   have e2:("" : Str).length = 0 := rfl
   rw [e2,Nat.mul_zero]
   omega
 · show Value.str (Txt.join "" (ls.map txt)) t' = _
   have e:Txt.join "" (ls.map txt) = txt ls.flatten := by
     unfold Txt.join
     rw [StrLaws.glued_eq_join]
     exact ZV ls
   rw [e]
noncomputable def rIxC:R2 := fun x y H Q => ∃ (l:List Nat) (i:Int) (c:Nat),x = .str (txt l) /\ y = .int i /\ l.length <= 1000000 /\ atI l i = some c /\ Q (.str (txt [c])) H
theorem Zp:IxR X rIxC := by
 intro value slice pins s σ H x y v u Q I rx ry h hs
 obtain ⟨l,i,c,rfl,rfl,hl,hc,q⟩ := h
 exact zam value slice pins s σ H _ _ v u Q I rx ry ⟨txt l,i,c,rfl,rfl,by rw [zA]; exact Nat.le_trans hl (by decide),by simpa [txt] using hc,q⟩ hs
end
end _L2
namespace _L2
open PySem PySem.Spec PyProof.Rows PySem.Builtin PySem.Builtin.Str PySem.W
theorem qa {l:List Nat} {c i:Nat}:StrLaws.At (txt l) (txt [c]) (txt l).length i ↔ l[i]? = some c := by
 have h := StrLaws.subAt_one (txt l) c i
 have e:(txt l).cps.toList = l := by simp [txt]
 rw [e] at h
 exact h
theorem YJ {l:List Nat} {c i:Nat} (h1:l[i]? = some c) (h2:∀ k:Nat,k < i -> l[k]? ≠ some c):∃ r,occurrences (txt l) (txt [c]) 0 (txt l).length 1 = i :: r := by
 rcases StrLaws.occ_head (txt l) (txt [c]) 1 (Nat.le_refl _) with ⟨_,n⟩ | ⟨j,r,e,a,n⟩
 · exact absurd (qa.mpr h1) (n i)
 · have hj := qa.mp a
   have:j = i := by
     rcases Nat.lt_trichotomy j i with q | q | q
     · exact absurd hj (h2 j q)
     · exact q
     · exact absurd (qa.mpr h1) (n i q)
   exact ⟨r,this ▸ e⟩
theorem W5 {l:List Nat} {c i:Nat} (h1:l[i]? = some c) (h2:∀ k:Nat,i < k -> l[k]? ≠ some c):lastOccurrence (txt l) (txt [c]) 0 (txt l).length = some i := by
 rcases StrLaws.last_spec (txt l) (txt [c]) with ⟨_,n⟩ | ⟨j,e,a,n⟩
 · exact absurd (qa.mpr h1) (n i)
 · have hj := qa.mp a
   have:j = i := by
     rcases Nat.lt_trichotomy j i with q | q | q
     · exact absurd (qa.mpr h1) (n i q)
     · exact q
     · exact absurd hj (h2 j q)
   exact this ▸ e
section
variable {X:Cx}
theorem QZ:MtR X "str.find" (fun x vs H Q => ∃ (l:List Nat) (c i:Nat),x = .str (txt l) /\ vs = [.str (txt [c])] /\ l[i]? = some c /\ (∀ k:Nat,k < i -> l[k]? ≠ some c) /\ Q (.int i) H) := by
 intro pins s σ H x xs v us Q I rx rxs h
 obtain ⟨l,c,i,rfl,rfl,h1,h2,q⟩ := h
 obtain ⟨t,rfl⟩ := rx
 obtain ⟨u,rfl,t2,rfl⟩ := vals1 rxs
 obtain ⟨r,e⟩ := YJ h1 h2
 have g := gives_str_find (txt l) (txt [c]) t t2
 rw [e] at g
 exact call_gives F.slot_str_find (typeIs_str _ _ _) F.entry_str_find (F.args_str_find_2 _ _) g ⟨.int _,H,I.tok _,⟨_,rfl⟩,q⟩
theorem W6:MtR X "str.rfind" (fun x vs H Q => ∃ (l:List Nat) (c i:Nat),x = .str (txt l) /\ vs = [.str (txt [c])] /\ l[i]? = some c /\ (∀ k:Nat,i < k -> l[k]? ≠ some c) /\ Q (.int i) H) := by
 intro pins s σ H x xs v us Q I rx rxs h
 obtain ⟨l,c,i,rfl,rfl,h1,h2,q⟩ := h
 obtain ⟨t,rfl⟩ := rx
 obtain ⟨u,rfl,t2,rfl⟩ := vals1 rxs
 have g := gives_str_rfind (txt l) (txt [c]) t t2
 rw [W5 h1 h2] at g
 exact call_gives F.slot_str_rfind (typeIs_str _ _ _) F.entry_str_rfind (F.args_str_rfind_2 _ _) g ⟨.int _,H,I.tok _,⟨_,rfl⟩,q⟩
theorem JL:MtR X "str.index" (fun x vs H Q => ∃ (l:List Nat) (c i:Nat),x = .str (txt l) /\ vs = [.str (txt [c])] /\ l[i]? = some c /\ (∀ k:Nat,k < i -> l[k]? ≠ some c) /\ Q (.int i) H) := by
 intro pins s σ H x xs v us Q I rx rxs h
 obtain ⟨l,c,i,rfl,rfl,h1,h2,q⟩ := h
 obtain ⟨t,rfl⟩ := rx
 obtain ⟨u,rfl,t2,rfl⟩ := vals1 rxs
 obtain ⟨r,e⟩ := YJ h1 h2
 exact call_gives F.slot_str_index (typeIs_str _ _ _) F.entry_str_index (F.args_str_index_2 _ _) (gives_str_index (txt l) (txt [c]) t t2 i r e) ⟨.int _,H,I.tok _,⟨_,rfl⟩,q⟩
theorem ZW (c:Nat):∀ l:List Nat,PyProof.Rows.cnt c l = (l.count c:Nat)
 | [] => rfl
 | n :: r => by
   rw [PyProof.Rows.cnt_cons,ZW c r,List.count_cons]
   by_cases e:n = c
   · subst e
     simp
     omega
   · simp [e]
theorem W7 (l:List Nat) (c:Nat):(occurrences (txt l) (txt [c]) 0 (txt l).length ((txt l).length + 1)).length = l.count c := by
 have h:Txt.count (txt l) (txt [c]) = PyProof.Rows.cnt c (txt l).cps.toList := PyProof.Rows.count_is (txt l) c
 have e:(txt l).cps.toList = l := by simp [txt]
 rw [e,ZW] at h
 unfold Txt.count at h
 omega
theorem XA:MtR X "str.count" (fun x vs H Q => ∃ (l:List Nat) (c:Nat),x = .str (txt l) /\ vs = [.str (txt [c])] /\ Q (.int (l.count c:Nat)) H) := by
 intro pins s σ H x xs v us Q I rx rxs h
 obtain ⟨l,c,rfl,rfl,q⟩ := h
 obtain ⟨t,rfl⟩ := rx
 obtain ⟨u,rfl,t2,rfl⟩ := vals1 rxs
 have g := gives_str_count (txt l) (txt [c]) t t2
 rw [W7] at g
 exact call_gives F.slot_str_count (typeIs_str _ _ _) F.entry_str_count (F.args_str_count_2 _ _) g ⟨.int _,H,I.tok _,⟨_,rfl⟩,q⟩
noncomputable def rInS:R2 := fun x y H Q => ∃ (l:List Nat) (c:Nat),x = .str (txt [c]) /\ y = .str (txt l) /\ Q (.bl (decide (c ∈ l))) H
theorem W8:OpR X (compareOp .In) rInS := by
 intro pins s σ H x y v u Q I rx ry h
 obtain ⟨l,c,rfl,rfl,q⟩ := h
 obtain ⟨t,rfl⟩ := rx
 obtain ⟨t2,rfl⟩ := ry
 refine in_str ?_
 have e := StrLaws.found_one (txt l) c
 have e2:(txt l).cps.toList = l := by simp [txt]
 rw [e2] at e
 have e3:(⟨#[c]⟩ : Str) = txt [c] := rfl
 rw [e3] at e
 rw [e]
 exact ⟨.bl _,H,I,rfl,q⟩
end
section
variable {g:TG} {tc:TT} {te:TE} {σ0:St} {H0:Hp} {R:List V -> Hp -> Prop} {K:PySem.W.Frag} {a:Addr} {xs:List V}
theorem W9 (Pv:Nat -> List V -> St -> Hp -> Prop) (h0:Pv 0 [] σ0 H0) (hz:∀ i ys σ H,i <= xs.length -> Pv i ys σ H -> ys.length <= sizeLine /\ SqL K H a xs) (hst:∀ ys σ H,Pv xs.length ys σ H -> R ys H)
   (hgo:∀ i x ys σ H p,xs[i]? = some x -> Pv i ys σ H -> H p = none -> g (.ref p) σ (upd H p (.tup [.int i,x])) fun σ2 H3 => tc σ2 H3 fun b H4 => if b = true then te σ2 H4 fun y H5 => Pv (i + 1) (ys ++ [y]) σ2 H5 else Pv (i + 1) ys σ2 H4) :
   ∃ W:Nat -> Nat -> List V -> St -> Hp -> Prop,(∃ m,W 0 m [] σ0 H0) /\ ∀ i m ys σ' H',W i m ys σ' H' ->
     ((ItE K a).stop i H' /\ ys.length <= sizeLine /\ R ys H') \/
     ((ItE K a).go i H' /\ ys.length <= sizeLine /\ ∃ N:List V -> St -> Hp -> Prop,(∀ ys' σ2 H2,N ys' σ2 H2 -> ∃ m',m' < m /\ W (i + 1) m' ys' σ2 H2) /\
       ∀ x H2,(ItE K a).yld i H' x H2 -> g x σ' H2 fun σ2 H3 => tc σ2 H3 fun b H4 => if b = true then te σ2 H4 fun y H5 => N (ys ++ [y]) σ2 H5 else N ys σ2 H4) :=
 jl (n := xs.length) Pv h0 (fun i ys σ H hi p => (hz i ys σ H hi p).1) (fun ys σ H p => ⟨⟨xs,(hz _ ys σ H (Nat.le_refl _) p).2,Nat.le_refl _⟩,hst ys σ H p⟩)
   fun i ys σ H hi p => ⟨⟨xs,xs[i],(hz i ys σ H (Nat.le_of_lt hi) p).2,by simp [hi]⟩,fun x H2 y => by
     obtain ⟨pp,v,hn,e1,e2,y⟩ := y
     subst e1 e2
     exact hgo i v ys σ _ pp (y xs (hz i ys σ _ (Nat.le_of_lt hi) p).2) p hn⟩
end
end _L2
namespace _Pic
open _Til
noncomputable def rw (rows:List (List Nat)) (y:Nat):List Nat := rows.getD y []
structure Rd (rows:List (List Nat)) (c l t r b:Nat):Prop where
 all:∀ x y:Nat,(rw rows y)[x]? = some c -> l <= x /\ x < r /\ t <= y /\ y < b
 lf:∃ y:Nat,(rw rows y)[l]? = some c
 tp:∃ x:Nat,(rw rows t)[x]? = some c
 rg:0 < r /\ ∃ y:Nat,(rw rows y)[r - 1]? = some c
 bt:0 < b /\ ∃ x:Nat,(rw rows (b - 1))[x]? = some c
theorem Rd.uniq {rows:List (List Nat)} {c l t r b l' t' r' b':Nat} (h:Rd rows c l t r b) (k:Rd rows c l' t' r' b'):l = l' /\ t = t' /\ r = r' /\ b = b' := by
 obtain ⟨y1,a1⟩ := h.lf
 obtain ⟨x1,a2⟩ := h.tp
 obtain ⟨q1,y2,a3⟩ := h.rg
 obtain ⟨q2,x2,a4⟩ := h.bt
 obtain ⟨y3,c1⟩ := k.lf
 obtain ⟨x3,c2⟩ := k.tp
 obtain ⟨q3,y4,c3⟩ := k.rg
 obtain ⟨q4,x4,c4⟩ := k.bt
 have e1 := k.all _ _ a1
 have e2 := k.all _ _ a2
 have e3 := k.all _ _ a3
 have e4 := k.all _ _ a4
 have f1 := h.all _ _ c1
 have f2 := h.all _ _ c2
 have f3 := h.all _ _ c3
 have f4 := h.all _ _ c4
 omega
noncomputable def Full (rows:List (List Nat)) (c l t r b:Nat):Prop := ∀ x y:Nat,l <= x -> x < r -> t <= y -> y < b -> (rw rows y)[x]? = some c
theorem wL {rows:List (List Nat)} {x y c:Nat} (h:(rw rows y)[x]? = some c):y < rows.length := by
 by_cases q:y < rows.length
 · exact q
 · unfold rw at h
   rw [List.getD_eq_getElem?_getD,List.getElem?_eq_none (Nat.le_of_not_lt q)] at h
   simp at h
theorem wH {rows:List (List Nat)} {y:Nat} (h:y < rows.length):rw rows y ∈ rows := by
 unfold rw
 rw [List.getD_eq_getElem?_getD,List.getElem?_eq_getElem h]
 exact List.getElem_mem h
theorem zaM {rows:List (List Nat)} {W x y c:Nat} (hW:∀ r ∈ rows,r.length = W) (h:(rw rows y)[x]? = some c):x < W := by
 rw [<- hW _ (wH (wL h))]
 exact (List.getElem?_eq_some_iff.mp h).1
theorem XB {rows:List (List Nat)} {W x y:Nat} (hW:∀ r ∈ rows,r.length = W) (hx:x < W) (hy:y < rows.length):∃ c,(rw rows y)[x]? = some c :=
 ⟨_,List.getElem?_eq_getElem (by rw [hW _ (wH hy)]; exact hx)⟩
theorem Rd.ok {rows:List (List Nat)} {W c l t r b:Nat} (hW:∀ r ∈ rows,r.length = W) (h:Rd rows c l t r b):Ok W rows.length ⟨l,t,r,b⟩ := by
 obtain ⟨y1,a1⟩ := h.lf
 obtain ⟨x1,a2⟩ := h.tp
 obtain ⟨q1,y2,a3⟩ := h.rg
 obtain ⟨q2,x2,a4⟩ := h.bt
 have := h.all _ _ a1
 have := h.all _ _ a2
 have := zaM hW a3
 have := wL a4
 constructor <;> simp only <;> omega
theorem jY {α:Type} {p:α -> Bool}:∀ {S:List α} {c:α},S.Nodup -> c ∈ S -> p c = true -> (∀ d ∈ S,p d = true -> d = c) -> S.countP p = 1
 | d :: S,c,nd,hc,h1,h2 => by
   rw [List.nodup_cons] at nd
   rw [List.countP_cons]
   rcases List.mem_cons.mp hc with e | m
   · subst e
     rw [if_pos h1]
     have:S.countP p = 0 := by
       rw [List.countP_eq_zero]
       intro d hd q
       exact nd.1 (h2 d (List.mem_cons_of_mem _ hd) q ▸ hd)
     omega
   · have e := jY nd.2 m h1 fun d hd => h2 d (List.mem_cons_of_mem _ hd)
     rw [if_neg (fun q => nd.1 (h2 d List.mem_cons_self q ▸ m))]
     omega
theorem Qa {rows:List (List Nat)} {W:Nat} (hW:∀ r ∈ rows,r.length = W) {S:List Nat} (nd:S.Nodup) (hS:∀ c,c ∈ S ↔ ∃ x y:Nat,(rw rows y)[x]? = some c) {B:Nat -> Nat × Nat × Nat × Nat}
   (hB:∀ c ∈ S,Rd rows c (B c).1 (B c).2.1 (B c).2.2.1 (B c).2.2.2) :
   z0 (S.map fun c => (⟨(B c).1,(B c).2.1,(B c).2.2.1,(B c).2.2.2⟩ : Bx)) W rows.length ↔ ∀ c ∈ S,Full rows c (B c).1 (B c).2.1 (B c).2.2.1 (B c).2.2.2 := by
 constructor
 · intro T c hc x y h1 h2 h3 h4
   have o := (hB c hc).ok hW
   obtain ⟨d,hd⟩ := XB (x := x) (y := y) hW (by have := o.h2; simp only at this; omega) (by have := o.v2; simp only at this; omega)
   have hdS := (hS d).mpr ⟨x,y,hd⟩
   obtain ⟨i,hi⟩ := List.getElem?_of_mem hc
   obtain ⟨j,hj⟩ := List.getElem?_of_mem hdS
   by_cases e:i = j
   · subst e
     rw [hi] at hj
     cases hj
     exact hd
   · exfalso
     have ap := T.apart (i := i) (j := j) (by rw [List.getElem?_map,hi]; rfl) (by rw [List.getElem?_map,hj]; rfl) e
     have q := (hB d hdS).all _ _ hd
     simp only at ap
     omega
 · intro F
   refine ⟨fun b hb => ?_,fun x y h1 h2 h3 h4 => ?_⟩
   · obtain ⟨c,hc,rfl⟩ := List.mem_map.mp hb
     exact (hB c hc).ok hW
   · obtain ⟨x,rfl⟩ := Int.eq_ofNat_of_zero_le h1
     obtain ⟨y,rfl⟩ := Int.eq_ofNat_of_zero_le h3
     obtain ⟨d,hd⟩ := XB (x := x) (y := y) hW (by omega) (by omega)
     have hdS := (hS d).mpr ⟨x,y,hd⟩
     unfold cnt
     rw [List.countP_map]
     refine jY nd hdS ?_ fun c hc q => ?_
     · have := (hB d hdS).all _ _ hd
       simp only [Function.comp]
       rw [zT]
       simp only
       omega
     · simp only [Function.comp] at q
       rw [zT] at q
       simp only at q
       have := F c hc x y (by omega) (by omega) (by omega) (by omega)
       rw [hd] at this
       cases this
       rfl
theorem jn {xs:List Nat} {c l n:Nat}:(xs.count c = n /\ (xs.drop l).take n = List.replicate n c) ↔ (l + n <= xs.length \/ n = 0) /\ ∀ x:Nat,xs[x]? = some c ↔ l <= x /\ x < l + n := by
 have cut:xs = xs.take l ++ ((xs.drop l).take n ++ xs.drop (l + n)) := by
   rw [<- List.drop_drop,List.take_append_drop,List.take_append_drop]
 constructor
 · intro ⟨h1,h2⟩
   have len:min n (xs.length - l) = n := by
     have := congrArg List.length h2
     simpa using this
   have c0:(xs.take l).count c = 0 /\ (xs.drop (l + n)).count c = 0 := by
     have := congrArg (List.count c) cut
     rw [List.count_append,List.count_append,h2,List.count_replicate_self,h1] at this
     omega
   refine ⟨by omega,fun x => ⟨fun hx => ?_,fun ⟨a,b⟩ => ?_⟩⟩
   · by_cases p1:x < l
     · exfalso
       have:c ∈ xs.take l := List.mem_of_getElem? (i := x) (by rw [List.getElem?_take,if_pos p1]; exact hx)
       exact absurd (List.count_pos_iff.mpr this) (by omega)
     · by_cases p2:x < l + n
       · exact ⟨by omega,p2⟩
       · exfalso
         have:c ∈ xs.drop (l + n) := List.mem_of_getElem? (i := x - (l + n)) (by rw [List.getElem?_drop,show l + n + (x - (l + n)) = x by omega]; exact hx)
         exact absurd (List.count_pos_iff.mpr this) (by omega)
   · have e:((xs.drop l).take n)[x - l]? = (List.replicate n c)[x - l]? := by rw [h2]
     rw [List.getElem?_take,if_pos (by omega),List.getElem?_drop,show l + (x - l) = x by omega,List.getElem?_replicate,if_pos (by omega)] at e
     exact e
 · intro ⟨h1,h2⟩
   have e2:(xs.drop l).take n = List.replicate n c := by
     apply List.ext_getElem?
     intro i
     rw [List.getElem?_take,List.getElem?_replicate]
     split
     · rw [List.getElem?_drop,(h2 (l + i)).mpr (by omega)]
     · rfl
   refine ⟨?_,e2⟩
   have a1:(xs.take l).count c = 0 := by
     rw [List.count_eq_zero]
     intro m
     obtain ⟨i,hi⟩ := List.getElem?_of_mem m
     rw [List.getElem?_take] at hi
     split at hi
     · have := (h2 i).mp hi
       omega
     · cases hi
   have a2:(xs.drop (l + n)).count c = 0 := by
     rw [List.count_eq_zero]
     intro m
     obtain ⟨i,hi⟩ := List.getElem?_of_mem m
     rw [List.getElem?_drop] at hi
     have := (h2 _).mp hi
     omega
   rw [cut,List.count_append,List.count_append,e2,List.count_replicate_self,a1,a2]
   omega
noncomputable def Due (rows:List (List Nat)) (c l t n b:Nat):Prop := ∀ y:Nat,t <= y -> y < b -> (rw rows y).count c = n /\ ((rw rows y).drop l).take n = List.replicate n c
theorem Xi {rows:List (List Nat)} {c l t r b:Nat} (h:Rd rows c l t r b) (F:Full rows c l t r b):Due rows c l t (r - l) b := by
 intro y h1 h2
 obtain ⟨y1,a1⟩ := h.lf
 have := h.all _ _ a1
 refine jn.mpr ⟨?_,fun x => ⟨fun hx => ?_,fun hx => F x y (by omega) (by omega) h1 h2⟩⟩
 · refine .inl ?_
   have := (List.getElem?_eq_some_iff.mp (F (r - 1) y (by omega) (by omega) h1 h2)).1
   omega
 · have := h.all _ _ hx
   omega
theorem jv {rows:List (List Nat)} {c l t n b:Nat} (D:Due rows c l t n b) (hn:0 < n) (tb:t < b) (hy:∀ x y:Nat,(rw rows y)[x]? = some c -> t <= y /\ y < b):Rd rows c l t (l + n) b /\ Full rows c l t (l + n) b := by
 have F:Full rows c l t (l + n) b := fun x y h1 h2 h3 h4 => ((jn.mp (D y h3 h4)).2 x).mpr ⟨h1,h2⟩
 refine ⟨⟨fun x y h => ?_,⟨t,F l t (Nat.le_refl _) (by omega) (Nat.le_refl _) tb⟩,⟨l,F l t (Nat.le_refl _) (by omega) (Nat.le_refl _) tb⟩,⟨by omega,t,F _ t (by omega) (by omega) (Nat.le_refl _) tb⟩,⟨by omega,l,F l _ (Nat.le_refl _) (by omega) (by omega) (by omega)⟩⟩,F⟩
 obtain ⟨a,d⟩ := hy x y h
 have := ((jn.mp (D y a d)).2 x).mp h
 omega
theorem jI:∀ {xs:List Nat} {c:Nat},c ∈ xs -> ∃ i:Nat,xs[i]? = some c /\ ∀ k:Nat,k < i -> xs[k]? ≠ some c
 | x :: xs,c,h => by
   by_cases e:x = c
   · exact ⟨0,by rw [e]; rfl,fun k hk => absurd hk (Nat.not_lt_zero _)⟩
   · obtain ⟨i,h1,h2⟩ := jI (xs := xs) (c := c) (by
       rcases List.mem_cons.mp h with h | h
       · exact absurd h.symm e
       · exact h)
     refine ⟨i + 1,by simpa using h1,fun k hk => ?_⟩
     cases k with
     | zero => simpa using e
     | succ k => simpa using h2 k (by omega)
theorem Zq:∀ {xs:List Nat} {c:Nat},c ∈ xs -> ∃ i:Nat,xs[i]? = some c /\ ∀ k:Nat,i < k -> xs[k]? ≠ some c
 | x :: xs,c,h => by
   by_cases m:c ∈ xs
   · obtain ⟨i,h1,h2⟩ := Zq m
     refine ⟨i + 1,by simpa using h1,fun k hk => ?_⟩
     cases k with
     | zero => omega
     | succ k => simpa using h2 k (by omega)
   · have e:x = c := by
       rcases List.mem_cons.mp h with h | h
       · exact h.symm
       · exact absurd h m
     refine ⟨0,by rw [e]; rfl,fun k hk z => ?_⟩
     cases k with
     | zero => omega
     | succ k => exact m (List.mem_of_getElem? (i := k) (by simpa using z))
theorem firsts (rows:List (List Nat)) (c:Nat):∃ f:Nat -> Nat,∀ y,c ∈ rw rows y -> (rw rows y)[f y]? = some c /\ ∀ k:Nat,k < f y -> (rw rows y)[k]? ≠ some c :=
 ⟨fun y => if h:c ∈ rw rows y then Classical.choose (jI h) else 0,fun y h => by
   simp only [dif_pos h]
   exact Classical.choose_spec (jI h)⟩
theorem lasts (rows:List (List Nat)) (c:Nat):∃ f:Nat -> Nat,∀ y,c ∈ rw rows y -> (rw rows y)[f y]? = some c /\ ∀ k:Nat,f y < k -> (rw rows y)[k]? ≠ some c :=
 ⟨fun y => if h:c ∈ rw rows y then Classical.choose (Zq h) else 0,fun y h => by
   simp only [dif_pos h]
   exact Classical.choose_spec (Zq h)⟩
noncomputable def hts (rows:List (List Nat)) (c n:Nat):List Nat := (List.range n).filter fun y => decide (c ∈ rw rows y)
theorem YK (rows:List (List Nat)) (c n:Nat):hts rows c (n + 1) = if c ∈ rw rows n then hts rows c n ++ [n] else hts rows c n := by
 unfold hts
 rw [List.range_succ,List.filter_append]
 by_cases h:c ∈ rw rows n
 · simp [h]
 · simp [h]
theorem wu {rows:List (List Nat)} {c y:Nat}:y ∈ hts rows c rows.length ↔ c ∈ rw rows y := by
 unfold hts
 rw [List.mem_filter,List.mem_range,decide_eq_true_eq]
 refine ⟨fun h => h.2,fun h => ⟨?_,h⟩⟩
 obtain ⟨x,hx⟩ := List.getElem?_of_mem h
 exact wL hx
theorem Zr (rows:List (List Nat)) (c n:Nat):(hts rows c n).length <= n := by
 have := List.length_filter_le (fun y => decide (c ∈ rw rows y)) (List.range n)
 rw [List.length_range] at this
 exact this
theorem YL (rows:List (List Nat)) (c n:Nat):(hts rows c n).Pairwise (· < ·) := List.Pairwise.filter _ List.pairwise_lt_range
theorem X4 {rows:List (List Nat)} {c M Z t e:Nat} {hs:List Nat} {f g:Nat -> Nat} (hm:∀ y,y ∈ hs ↔ c ∈ rw rows y) (pw:hs.Pairwise (· < ·)) (h0:hs[0]? = some t) (h1:hs[hs.length - 1]? = some e)
   (F:∀ y,c ∈ rw rows y -> (rw rows y)[f y]? = some c /\ ∀ k:Nat,k < f y -> (rw rows y)[k]? ≠ some c) (G:∀ y,c ∈ rw rows y -> (rw rows y)[g y]? = some c /\ ∀ k:Nat,g y < k -> (rw rows y)[k]? ≠ some c)
   (m1:∃ y ∈ hs,M = f y) (m2:∀ y ∈ hs,M <= f y) (z1:∃ y ∈ hs,Z = g y) (z2:∀ y ∈ hs,g y <= Z):Rd rows c M t (Z + 1) (e + 1) := by
 have lo:∀ y ∈ hs,t <= y := fun y hy => by
   obtain ⟨i,hi⟩ := List.getElem?_of_mem hy
   by_cases q:i = 0
   · subst q
     rw [h0] at hi
     cases hi
     exact Nat.le_refl _
   · obtain ⟨a1,b1⟩ := List.getElem?_eq_some_iff.mp h0
     obtain ⟨a2,b2⟩ := List.getElem?_eq_some_iff.mp hi
     have := List.pairwise_iff_getElem.mp pw 0 i a1 a2 (by omega)
     rw [b1,b2] at this
     exact Nat.le_of_lt this
 have hi:∀ y ∈ hs,y <= e := fun y hy => by
   obtain ⟨i,hi⟩ := List.getElem?_of_mem hy
   obtain ⟨a1,b1⟩ := List.getElem?_eq_some_iff.mp h1
   obtain ⟨a2,b2⟩ := List.getElem?_eq_some_iff.mp hi
   by_cases q:i = hs.length - 1
   · subst q
     rw [h1] at hi
     cases hi
     exact Nat.le_refl _
   · have := List.pairwise_iff_getElem.mp pw i (hs.length - 1) a2 a1 (by omega)
     rw [b1,b2] at this
     exact Nat.le_of_lt this
 have ht := (hm t).mp (List.mem_of_getElem? h0)
 have he := (hm e).mp (List.mem_of_getElem? h1)
 obtain ⟨y1,q1,rfl⟩ := m1
 obtain ⟨y2,q2,rfl⟩ := z1
 refine ⟨fun x y h => ?_,⟨y1,(F y1 ((hm y1).mp q1)).1⟩,⟨f t,(F t ht).1⟩,⟨by omega,y2,(G y2 ((hm y2).mp q2)).1⟩,⟨by omega,f e,(F e he).1⟩⟩
 have cy:c ∈ rw rows y := List.mem_of_getElem? h
 have yh := (hm y).mpr cy
 have a1 := m2 y yh
 have a2 := z2 y yh
 have a3 := lo y yh
 have a4 := hi y yh
 have a5:¬ x < f y := fun q => (F y cy).2 x q h
 have a6:¬ g y < x := fun q => (G y cy).2 x q h
 omega
end _Pic
namespace _L2
open PySem PySem.Spec PyProof.Rows PySem.W
section
variable {X:Cx} {K:Frag}
theorem xP (hK:X.K = K):IxR X (rIxL K) := by subst hK; exact zv
theorem Qb (hK:X.K = K):yr X (.builtin "len") (fun xs H Q => ∃ p ys,xs = [.ref p] /\ (SqL K H p ys \/ SqT K H p ys) /\ Q (.int ys.length) H) := by subst hK; exact zI
theorem JM {es:List Expr} {k:Nat} {t:TGs} {n:Nat} {pos:Pos} (hK:X.K = K) (hc:X.calm = true) (h:PGs X es t)
   (hn:(assignEach es X.env).length = n := by rfl) (hs:(assignEach es X.env).findIdx? (·.1) = none := by rfl):PG X (.Tuple es k pos) (gTup K n t) := by
 subst hK
 exact xI hc h hn hs
end
end _L2
namespace _L2
open PySem PySem.Spec PyProof.Rows PySem.W
section
variable {X:Cx}
theorem YM {K:PySem.W.Frag} {o e:Expr} {es:List Expr} {to:TE} {t:TA} {name:Str} {apos cpos:Pos} {T id:String} {r:V -> List V -> Hp -> VK -> Prop} (hK:X.K = K) (pa:PlainAttrs T) (slot:Slot T name id) (hty:typeOf (.builtin id) = pure (.type "method_descriptor")) (hm:MtR X id r) (ho:PE X o to) (ha:PA X (e :: es) t)
   (hbase:attributeBase o name X.env (eval o X.env) = eval o X.env := by rfl)
   (hfew:((backTo cpos (starEach (e :: es) X.env)).all (fun x => !x.1) && (backToKw cpos (keywordEach [] X.env)).all (fun x => x.1.isSome)
     && decide ((e :: es).length + ([]:List Keyword).length + (if ([]:List Keyword).isEmpty then 0 else 1) < 30)) = true := by rfl)
   (hline:(apos.endLine == cpos.line) = true := by rfl) (hs:starEach (e :: es) X.env = (false,eval e X.env) :: starEach es X.env := by rfl) (hplain:(backTo cpos (starEach es X.env)).any (·.1) = false := by rfl) :
   PE X (.Call (.Attribute o name apos) (e :: es) [] cpos) (tBM K T r to t) := by
 subst hK
 exact xc pa slot hty hm ho ha hbase hfew hline hs hplain
end
section
variable {X:Cx} {es:List Expr} {te:TE} {t:TA}
theorem zbe {a:Const} {b:Nat} {c:Pos} (ha:PE X (.Constant a b c) te) (hr:PA X es t):PA X (.Constant a b c :: es) (zB te t) := za ha hr rfl
theorem zbf {a:List Expr} {c:Pos} (ha:PE X (.List a c) te) (hr:PA X es t):PA X (.List a c :: es) (zB te t) := za ha hr rfl
end
structure Bx (p:Prop):Prop where
 get:p
section
variable {X:Cx} {es:List Expr} {te:TE} {t:TA}
theorem wn:Bx (PA X [] tNil) := ⟨zb⟩
theorem b_cC {a:Const} {b:Nat} {c:Pos} (ha:Bx (PE X (.Constant a b c) te)) (hr:Bx (PA X es t)):Bx (PA X (.Constant a b c :: es) (zB te t)) := ⟨zbe ha.get hr.get⟩
end
end _L2
namespace _L2
open PySem
theorem qR {X:Cx} {K:PySem.W.Frag} (hK:X.K = K):yr X (.builtin "isinstance") (fun xs H Q => ∃ x c t b,xs = [x,c] /\ jj c = true /\ TyX K H x t /\ PySem.W.kitOne K t (clsV c) = some b /\ Q (.bl b) H) := by
 subst hK
 exact xA
end _L2
namespace _K4
open PySem _L2 _Til _Pic
noncomputable def txs (rows:List (List Nat)):List V := rows.map fun r => V.str (txt r)
theorem qS {rows:List (List Nat)} {i:Nat} {x:V} (h:(txs rows)[i]? = some x):∃ r,rows[i]? = some r /\ x = .str (txt r) := by
 unfold txs at h
 rw [List.getElem?_map] at h
 cases e:rows[i]? with
 | none => rw [e] at h; cases h
 | some r => rw [e] at h; cases h; exact ⟨r,rfl,rfl⟩
theorem xQ {α β:Type} {xs:List α} {i:Nat} {x:α} (g:α -> β) (h:xs[i]? = some x):(xs.take i).map g ++ [g x] = (xs.take (i + 1)).map g := by
 rw [List.take_succ,h,List.map_append]
 rfl
noncomputable def xf (rows:List (List Nat)):Bool := decide (rows ≠ []) && rows.all fun r => decide (r.length = (rows.getD 0 []).length)
noncomputable def YN:Sp := fun vs H Q _ => ∃ (a:Addr) (rows:List (List Nat)),vs = [.ref a] /\ H a = some (.lst (txs rows)) /\ rows.length <= 1000 /\ (∀ r ∈ rows,r.length <= 1000) /\ ∀ H',Same H H' -> Q (.bl (xf rows)) H'
section
variable {P:Program} {w:World} {K:PySem.W.Frag} {mg:Str -> Option Value} {base:Heap}
theorem zaN:zC ["rows"] ["rows"] (zl jf) := ⟨rfl,rfl,rfl,by decide +kernel,rfl,by decide +kernel,by decide +kernel⟩
theorem JN {f:Addr} {fd:FuncData} (F:Fun K "are_even_texts" "are_even_texts" jf f fd) (ti:mg "isinstance" = none) (tlist:mg "list" = none) (tstr:mg "str" = none) (tl:mg "len" = none) (tall:mg "all" = none):FnOk P w K mg base CX0 1 f fd ["rows"] YN := by
 refine F.ok zaN (fun vs H Q E h => ?_) (fun cdv A outer s H vs Q E hr h => ?_)
 · obtain ⟨a,rows,rfl,_⟩ := h
   rfl
 · obtain ⟨a,rows,rfl,hl,hn,hw,q⟩ := h
   refine ⟨_,(zg (zU (PW.pt (xy (yz (yu (zo xA (by rfl) ti PyProof.Rows.boot_isinstance (za (pv 0) (za (x8 rfl tlist PyProof.Rows.boot_list) zb))))) (xh (zu yY (zo zI (by rfl) tl PySem.boot_len (za (pv 0) zb)) ze (zr _)))))
     (zh (zw yT))
     zO)
     (zg (zU (yz (yu (zo (xZ rfl) (by rfl) tall PyProof.Rows.boot_all (za (yW (Nc := ["row"]) (ix := [none]) rfl rfl (by refine' yo ?zz; case zz => exact (pv 0)) (fun _ _ _ _ _ => (zp (i := 0) (by show (["row"]:List Str).Nodup; decide +kernel) rfl (Or.inl rfl))) (fun _ _ _ _ _ => yK) (fun _ _ _ _ _ => (zo (qR (K := K) rfl) (by rfl) ti PyProof.Rows.boot_isinstance (za (pv 0) (za (x8 rfl tstr PyProof.Rows.boot_str) zb))))) zb))))
     (zh (zw yT))
     zO)
     (zh (zw (zo (xZ rfl) (by rfl) tall PyProof.Rows.boot_all (za (yW (Nc := ["row","rows"]) (ix := [none,some 0]) rfl rfl (by refine' yo ?zz; case zz => exact (pv 0)) (fun _ _ _ _ _ => (zp (i := 0) (by show (["row","rows"]:List Str).Nodup; decide +kernel) rfl (Or.inl rfl))) (fun _ _ _ _ _ => yK) (fun _ _ _ _ _ => (ye yY (zo yd (by rfl) tl PySem.boot_len (za (pv 0) zb)) (zo yd (by rfl) tl PySem.boot_len (za (zn (xP (K := K) rfl) (pv 1) ze (fun _ _ => rfl)) zb)) (zr _)))) zb)))))),?_⟩
   have lr:(txs rows).length = rows.length := List.length_map _
   refine ⟨_,rfl,_,_,_,_,rfl,rfl,.of (.lst hl),rfl,_,rfl,iteF ?_⟩
   refine ⟨_,rfl,a,_,rfl,.inl (SqL.of hl),rfl,_,rfl,?_⟩
   have eE:decide (V.int ((txs rows).length:Int) = V.int 0) = decide (rows = []) := by
     rw [decide_eq_decide,lr]
     constructor
     · intro z
       injection z with z
       exact List.eq_nil_of_length_eq_zero (by omega)
     · intro z
       rw [z]
       rfl
   rw [eE]
   refine ite2 (fun c1 => ?_) (fun c1 => ?_)
   · have c1 := of_decide_eq_true c1
     have e:xf rows = false := by
       unfold xf
       rw [decide_eq_false (fun z => z c1)]
       rfl
     have z := q H (Same.refl _)
     rw [e] at z
     exact z
   · have c1:rows ≠ [] := fun z => c1 (decide_eq_true z)
     have evE:xf rows = rows.all fun r => decide (r.length = (rows.getD 0 []).length) := by
       unfold xf
       rw [decide_eq_true c1]
       rfl
     have r0:rows[0]? = some (rows.getD 0 []) := by
       cases rows with
       | nil => exact absurd rfl c1
       | cons r rs => rfl
     refine ⟨_,rfl,a,rfl,⟨_,SqL.of hl⟩,yI (K := K) (a := a) (xs := txs rows) (fun i ys σ H' => ys = (rows.take i).map (fun _ => V.bl true) /\ Same H H' /\ ∃ o,σ = [o])
       ⟨rfl,Same.refl _,none,rfl⟩ (fun i ys σ H' hi h9 => by obtain ⟨e,S,_⟩ := h9; exact (⟨by rw [e,List.length_map,List.length_take]; exact Nat.le_trans (show _ <= 1000 by omega) (by decide),SqL.of (S _ _ hl)⟩)) ?_ ?_⟩
     · rintro ys σ H1 ⟨e,S1,_⟩ la nl
       rw [lr,List.take_length] at e
       subst e
       refine ⟨la,rows.map (fun _ => true),rfl,SqL.of (by rw [zd,List.map_map]; rfl),?_⟩
       have e1:(rows.map fun _ => true).all id = true := by simp
       rw [e1]
       refine ⟨_,rfl,iteF ?_⟩
       have S2 := S1.trans (zf (o := .lst (rows.map fun _ => V.bl true)) nl)
       generalize upd H1 la (.lst (rows.map fun _ => V.bl true)) = H2 at S2
       have hl2 := S2 _ _ hl
       refine ⟨_,rfl,a,rfl,⟨_,SqL.of hl2⟩,yI (K := K) (a := a) (xs := txs rows) (fun i ys σ H' => ys = (rows.take i).map (fun r => V.bl (decide (r.length = (rows.getD 0 []).length))) /\ Same H H' /\ ∃ o,σ = [o,some (.ref a)])
         ⟨rfl,S2,none,rfl⟩ (fun i ys σ H' hi h9 => by obtain ⟨e,S,_⟩ := h9; exact (⟨by rw [e,List.length_map,List.length_take]; exact Nat.le_trans (show _ <= 1000 by omega) (by decide),SqL.of (S _ _ hl)⟩)) ?_ ?_⟩
       · rintro ys σ H3 ⟨e,S3,_⟩ lb nb
         rw [lr,List.take_length] at e
         subst e
         refine ⟨lb,rows.map (fun r => decide (r.length = (rows.getD 0 []).length)),rfl,SqL.of (by rw [zd,List.map_map]; rfl),?_⟩
         have z := q _ (S3.trans (zf (o := .lst (rows.map fun r => V.bl (decide (r.length = (rows.getD 0 []).length)))) nb))
         rw [evE] at z
         have e:(rows.map fun r => decide (r.length = (rows.getD 0 []).length)).all id = rows.all fun r => decide (r.length = (rows.getD 0 []).length) := by
           rw [List.all_map]
           rfl
         rw [e]
         exact z
       · rintro i x ys σ H3 hx ⟨e,S3,o,rfl⟩
         subst e
         obtain ⟨r,er,rfl⟩ := qS hx
         dsimp only [zG,tYes]
         refine iteT ?_
         have h0:(txs rows)[0]? = some (.str (txt (rows.getD 0 []))) := by
           unfold txs
           rw [List.getElem?_map,r0]
           rfl
         have m0:rows.getD 0 [] ∈ rows := List.mem_of_getElem? r0
         have l1:(txt r).length <= sizeLine := by rw [zA]; exact Nat.le_trans (hw r (List.mem_of_getElem? er)) (by decide)
         have l2:(txt (rows.getD 0 [])).length <= sizeLine := by rw [zA]; exact Nat.le_trans (hw _ m0) (by decide)
         refine ⟨_,rfl,_,rfl,l1,_,rfl,a,_,0,_,rfl,rfl,SqL.of (S3 _ _ hl),zH h0,_,rfl,l2,rfl,?_,S3,_,rfl⟩
         have e:decide (V.int ((txt r).length:Int) = V.int ((txt (rows.getD 0 [])).length:Int)) = decide (r.length = (rows.getD 0 []).length) := by
           rw [decide_eq_decide,zA,zA]
           exact ⟨fun z => by injection z with z; omega,fun z => by rw [z]⟩
         rw [e]
         exact xQ (fun r => V.bl (decide (r.length = (rows.getD 0 []).length))) er
     · rintro i x ys σ H1 hx ⟨e,S1,o,rfl⟩
       subst e
       obtain ⟨r,er,rfl⟩ := qS hx
       dsimp only [zG,tYes]
       refine iteT ?_
       exact ⟨_,rfl,_,_,_,_,rfl,rfl,.of (.str _),rfl,xQ (fun _ => V.bl true) er,S1,_,rfl⟩
noncomputable def Zs:Sp := fun vs H Q _ => ∃ (a:Addr) (rows:List (List Nat)) (c:Nat),vs = [.ref a,.str (txt [c])] /\ H a = some (.lst (txs rows)) /\ rows.length <= 1000 /\ (∀ r ∈ rows,r.length <= 1000) /\ (∃ x y:Nat,(rw rows y)[x]? = some c) /\
 ∀ (v:V) (l t r b:Nat) (H':Hp),Same H H' -> Rd rows c l t r b -> yR H' v ⟨l,t,r,b⟩ -> Q v H'
theorem jo:zC ["rows","sign","heights","left","right"] ["rows","sign"] (zl wZ) := ⟨rfl,rfl,rfl,by decide +kernel,rfl,by decide +kernel,by decide +kernel⟩
theorem Q0 {f:Addr} {fd:FuncData} (F:Fun K "box_round" "box_round" wZ f fd) (te:mg "enumerate" = none) (tmin:mg "min" = none) (tmax:mg "max" = none):FnOk P w K mg base CX0 1 f fd ["rows","sign"] Zs := by
 refine F.ok jo (fun vs H Q E h => ?_) (fun cdv A outer s H vs Q E hr h => ?_)
 · obtain ⟨a,rows,c,rfl,_⟩ := h
   rfl
 · obtain ⟨a,rows,c,rfl,hl,hn,hw,⟨x0,y0,hxy⟩,q⟩ := h
   refine ⟨_,(zg (jk (i := 2) (Nc := ["y","row","sign"]) (ix := [none,none,some 1]) jo.nd rfl (Or.inl rfl) rfl rfl (by exact (Yx rfl te (za (pv 0) zb))) (fun _ _ _ _ _ => (JM (K := K) (n := 2) rfl rfl (zE (zp (i := 0) (by show (["y","row","sign"]:List Str).Nodup; decide +kernel) rfl (Or.inl rfl)) (zE (zp (i := 1) (by show (["y","row","sign"]:List Str).Nodup; decide +kernel) rfl (Or.inl rfl)) xm)))) (fun _ _ _ _ _ => (Zl (zu W8 (pv 2) (pv 1) rfl))) (fun _ _ _ _ _ => (pv 0)))
     (zg (zt (i := 3) jo.nd rfl (Or.inl rfl) (zo (WV rfl) (by rfl) tmin PyProof.Rows.boot_min (za (yW (Nc := ["y","sign","rows"]) (ix := [none,some 1,some 0]) rfl rfl (by refine' yo ?zz; case zz => exact (pv 2)) (fun _ _ _ _ _ => (zp (i := 0) (by show (["y","sign","rows"]:List Str).Nodup; decide +kernel) rfl (Or.inl rfl))) (fun _ _ _ _ _ => yK) (fun _ _ _ _ _ => (YM (K := K) rfl PySem.F.plainAttrs_str PySem.F.slot_str_find PySem.F.type_str_find QZ (zn (xP (K := K) rfl) (pv 2) (pv 0) (fun _ _ => rfl)) (za (pv 1) zb)))) zb)))
     (zg (zt (i := 4) jo.nd rfl (Or.inl rfl) (zk zQ (zo (WW rfl) (by rfl) tmax PyProof.Rows.boot_max (za (yW (Nc := ["y","sign","rows"]) (ix := [none,some 1,some 0]) rfl rfl (by refine' yo ?zz; case zz => exact (pv 2)) (fun _ _ _ _ _ => (zp (i := 0) (by show (["y","sign","rows"]:List Str).Nodup; decide +kernel) rfl (Or.inl rfl))) (fun _ _ _ _ _ => yK) (fun _ _ _ _ _ => (YM (K := K) rfl PySem.F.plainAttrs_str PySem.F.slot_str_rfind PySem.F.type_str_rfind W6 (zn (xP (K := K) rfl) (pv 2) (pv 0) (fun _ _ => rfl)) (za (pv 1) zb)))) zb)) ze))
     (zh (zw (zS (za (pv 3) (za (zn zv (pv 2) ze (fun _ _ => rfl)) (za (pv 4) (za (zk zQ (zn zv (pv 2) (qU wQ ze) (fun _ _ => rfl)) ze) zb)))))))))),?_⟩
   have lr:(txs rows).length = rows.length := List.length_map _
   refine ⟨_,rfl,a,rfl,⟨_,SqL.of hl⟩,W9 (K := K) (a := a) (xs := txs rows) (fun i ys σ H' => ∃ o0 o1,σ = [o0,o1,some (.str (txt [c]))] /\ Same H H' /\ ys = (hts rows c i).map fun y => V.int (y:Nat))
     ⟨none,none,rfl,Same.refl _,rfl⟩ (fun i ys σ H' hi h9 => by obtain ⟨_,_,_,S,e⟩ := h9; exact (⟨by rw [e,List.length_map]; exact Nat.le_trans (Nat.le_trans (Zr rows c i) (show i <= 1000 by omega)) (by decide),SqL.of (S _ _ hl)⟩)) ?_ ?_⟩
   · rintro ys σ H1 ⟨o0,o1,rfl,S1,e⟩ lh nh
     rw [lr] at e
     subst e
     have S2 := S1.trans (zf (o := .lst ((hts rows c rows.length).map fun y => V.int (y:Nat))) nh)
     have hh:(upd H1 lh (.lst ((hts rows c rows.length).map fun y => V.int (y:Nat)))) lh = some (.lst ((hts rows c rows.length).map fun y => V.int (y:Nat))) := zd
     generalize upd H1 lh (.lst ((hts rows c rows.length).map fun y => V.int (y:Nat))) = H2 at S2 hh
     have pw := YL rows c rows.length
     have hm:∀ y,y ∈ hts rows c rows.length ↔ c ∈ rw rows y := fun y => wu
     have hle := Zr rows c rows.length
     have ne:y0 ∈ hts rows c rows.length := wu.mpr (List.mem_of_getElem? hxy)
     generalize hts rows c rows.length = hs at hh pw hm hle ne
     obtain ⟨fi,Fi⟩ := firsts rows c
     obtain ⟨la,La⟩ := lasts rows c
     have pos:0 < hs.length := List.length_pos_of_mem ne
     have inH:∀ {i:Nat} {x:V},(hs.map fun y => V.int (y:Nat))[i]? = some x -> ∃ y,hs[i]? = some y /\ x = .int (y:Nat) /\ (txs rows)[y]? = some (.str (txt (rw rows y))) /\ c ∈ rw rows y := fun {i x} hx => by
       rw [List.getElem?_map] at hx
       cases e:hs[i]? with
       | none => rw [e] at hx; cases hx
       | some y =>
         rw [e] at hx
         cases hx
         have cy := (hm y).mp (List.mem_of_getElem? e)
         obtain ⟨x',hx'⟩ := List.getElem?_of_mem cy
         have ly := wL hx'
         refine ⟨y,rfl,rfl,?_,cy⟩
         unfold txs rw
         rw [List.getElem?_map,List.getElem?_eq_getElem ly,List.getD_eq_getElem?_getD,List.getElem?_eq_getElem ly]
         rfl
     have lH:(hs.map fun y => V.int (y:Nat)).length = hs.length := List.length_map _
     refine ⟨_,rfl,lh,rfl,⟨_,SqL.of hh⟩,yI (K := K) (a := lh) (xs := hs.map fun y => V.int (y:Nat)) (fun i ys σ H' => ys = (hs.take i).map (fun y => V.int (fi y:Nat)) /\ Same H2 H' /\ ∃ o,σ = [o,some (.str (txt [c])),some (.ref a)])
       ⟨rfl,Same.refl _,none,rfl⟩ (fun i ys σ H' hi h9 => by obtain ⟨e,S,_⟩ := h9; exact (⟨by rw [e,List.length_map,List.length_take]; exact Nat.le_trans (show _ <= 1000 by omega) (by decide),SqL.of (S _ _ hh)⟩)) ?_ ?_⟩
     · rintro ys σ H3 ⟨e,S3,_⟩ l1 n1
       rw [lH,List.take_length] at e
       subst e
       refine ⟨l1,hs.map (fun y => (fi y:Int)),rfl,SqL.of (by rw [zd,List.map_map]; rfl),by rw [List.length_map]; exact pos,fun M m1 m2 => ?_⟩
       have S4 := S3.trans (zf (o := .lst (hs.map fun y => V.int (fi y:Nat))) n1)
       generalize upd H3 l1 (.lst (hs.map fun y => V.int (fi y:Nat))) = H4 at S4
       obtain ⟨yM,hyM,rfl⟩ := List.mem_map.mp m1
       refine ⟨_,rfl,lh,rfl,⟨_,SqL.of (S4 _ _ hh)⟩,yI (K := K) (a := lh) (xs := hs.map fun y => V.int (y:Nat)) (fun i ys σ H' => ys = (hs.take i).map (fun y => V.int (la y:Nat)) /\ Same H2 H' /\ ∃ o,σ = [o,some (.str (txt [c])),some (.ref a)])
         ⟨rfl,S4,none,rfl⟩ (fun i ys σ H' hi h9 => by obtain ⟨e,S,_⟩ := h9; exact (⟨by rw [e,List.length_map,List.length_take]; exact Nat.le_trans (show _ <= 1000 by omega) (by decide),SqL.of (S _ _ hh)⟩)) ?_ ?_⟩
       · rintro ys σ H5 ⟨e,S5,_⟩ l2 n2
         rw [lH,List.take_length] at e
         subst e
         refine ⟨l2,hs.map (fun y => (la y:Int)),rfl,SqL.of (by rw [zd,List.map_map]; rfl),by rw [List.length_map]; exact pos,fun Z z1 z2 => ?_⟩
         have S6 := S5.trans (zf (o := .lst (hs.map fun y => V.int (la y:Nat))) n2)
         generalize upd H5 l2 (.lst (hs.map fun y => V.int (la y:Nat))) = H6 at S6
         obtain ⟨yZ,hyZ,rfl⟩ := List.mem_map.mp z1
         obtain ⟨t,ht⟩ : ∃ t,hs[0]? = some t := ⟨_,List.getElem?_eq_getElem pos⟩
         obtain ⟨e,he⟩ : ∃ e,hs[hs.length - 1]? = some e := ⟨_,List.getElem?_eq_getElem (by omega)⟩
         have R:Rd rows c (fi yM) t (la yZ + 1) (e + 1) := X4 hm pw ht he Fi La ⟨yM,hyM,rfl⟩ (fun y hy => by have := m2 _ (List.mem_map_of_mem hy); omega) ⟨yZ,hyZ,rfl⟩ fun y hy => by have := z2 _ (List.mem_map_of_mem hy); omega
         have a0:atI (hs.map fun y => V.int (y:Nat)) 0 = some (.int (t:Nat)) := zH (j := 0) (by rw [List.getElem?_map,ht]; rfl)
         have a1:atI (hs.map fun y => V.int (y:Nat)) (-1) = some (.int (e:Nat)) := by
           have cut:hs = hs.take (hs.length - 1) ++ [e] := by
             have := List.take_succ (l := hs) (i := hs.length - 1)
             rw [he,show hs.length - 1 + 1 = hs.length by omega,List.take_length] at this
             exact this
           rw [cut,List.map_append]
           exact jA _ _
         have hh6 := S6 _ _ hh
         refine ⟨_,_,rfl,rfl,?_⟩
         dsimp only [zG]
         refine ⟨_,rfl,_,rfl,_,_,_,_,rfl,rfl,SqL.of hh6,a0,_,rfl,_,rfl,_,rfl,_,_,_,_,rfl,rfl,SqL.of hh6,a1,_,_,rfl,rfl,by show 4 <= sizeLine; decide,fun p' n' => ?_⟩
         refine q _ _ _ _ _ _ ((S2.trans S6).trans (zf n')) R ⟨p',rfl,zd⟩
       · rintro i x ys σ H5 hx ⟨e,S5,o,rfl⟩
         subst e
         obtain ⟨y,ey,rfl,ty,cy⟩ := inH hx
         dsimp only [zG,tYes]
         refine iteT ?_
         exact ⟨_,rfl,_,rfl,a,_,y,_,rfl,rfl,SqL.of ((S2.trans S5) _ _ hl),zH ty,rfl,_,rfl,rw rows y,c,la y,rfl,rfl,(La y cy).1,(La y cy).2,xQ (fun y => V.int (la y:Nat)) ey,S5,_,rfl⟩
     · rintro i x ys σ H3 hx ⟨e,S3,o,rfl⟩
       subst e
       obtain ⟨y,ey,rfl,ty,cy⟩ := inH hx
       dsimp only [zG,tYes]
       refine iteT ?_
       exact ⟨_,rfl,_,rfl,a,_,y,_,rfl,rfl,SqL.of ((S2.trans S3) _ _ hl),zH ty,rfl,_,rfl,rw rows y,c,fi y,rfl,rfl,(Fi y cy).1,(Fi y cy).2,xQ (fun y => V.int (fi y:Nat)) ey,S3,_,rfl⟩
   · rintro i x ys σ H1 p hx ⟨o0,o1,rfl,S1,e⟩ hp
     subst e
     obtain ⟨r,er,rfl⟩ := qS hx
     have er':rw rows i = r := by
       unfold rw
       rw [List.getD_eq_getElem?_getD,er]
       rfl
     have S2 := S1.trans (zf (o := .tup [.int i,.str (txt r)]) hp)
     refine ⟨p,_,rfl,SqT.of zd,rfl,_,_,rfl,_,_,rfl,rfl,?_⟩
     refine ⟨_,rfl,_,rfl,r,c,rfl,rfl,_,rfl,?_⟩
     rw [YK,er']
     refine ite2 (fun c1 => ?_) (fun c1 => ?_)
     · have c1:c ∈ r := of_decide_eq_true c1
       rw [if_pos c1]
       refine ⟨_,rfl,_,_,rfl,S2,?_⟩
       rw [List.map_append]
       rfl
     · have c1:c ∉ r := fun z => c1 (decide_eq_true z)
       rw [if_neg c1]
       exact ⟨_,_,rfl,S2,rfl⟩
end
end _K4
namespace _Pic
open _Til
theorem YO (f:Nat -> Nat):∀ {hs:List Nat},hs ≠ [] -> ∃ m ∈ hs,∀ y ∈ hs,f m <= f y
 | [],h => absurd rfl h
 | [a],_ => ⟨a,List.mem_cons_self,fun y hy => by rw [List.mem_singleton.mp hy]; exact Nat.le_refl _⟩
 | a :: b :: r,_ => by
   obtain ⟨m,h1,h2⟩ := YO f (hs := b :: r) (by simp)
   by_cases q:f a <= f m
   · refine ⟨a,List.mem_cons_self,fun y hy => ?_⟩
     rcases List.mem_cons.mp hy with e | e
     · rw [e]; exact Nat.le_refl _
     · exact Nat.le_trans q (h2 y e)
   · refine ⟨m,List.mem_cons_of_mem _ h1,fun y hy => ?_⟩
     rcases List.mem_cons.mp hy with e | e
     · rw [e]; omega
     · exact h2 y e
theorem YQ (f:Nat -> Nat):∀ {hs:List Nat},hs ≠ [] -> ∃ m ∈ hs,∀ y ∈ hs,f y <= f m
 | [],h => absurd rfl h
 | [a],_ => ⟨a,List.mem_cons_self,fun y hy => by rw [List.mem_singleton.mp hy]; exact Nat.le_refl _⟩
 | a :: b :: r,_ => by
   obtain ⟨m,h1,h2⟩ := YQ f (hs := b :: r) (by simp)
   by_cases q:f m <= f a
   · refine ⟨a,List.mem_cons_self,fun y hy => ?_⟩
     rcases List.mem_cons.mp hy with e | e
     · rw [e]; exact Nat.le_refl _
     · exact Nat.le_trans (h2 y e) q
   · refine ⟨m,List.mem_cons_of_mem _ h1,fun y hy => ?_⟩
     rcases List.mem_cons.mp hy with e | e
     · rw [e]; omega
     · exact h2 y e
theorem zbg {rows:List (List Nat)} {c x y:Nat} (h:(rw rows y)[x]? = some c):∃ l t r b,Rd rows c l t r b := by
 have ne:y ∈ hts rows c rows.length := wu.mpr (List.mem_of_getElem? h)
 have nn:hts rows c rows.length ≠ [] := fun z => by rw [z] at ne; cases ne
 have pos := List.length_pos_of_mem ne
 obtain ⟨f,F⟩ := firsts rows c
 obtain ⟨g,G⟩ := lasts rows c
 obtain ⟨m,m1,m2⟩ := YO f nn
 obtain ⟨z,z1,z2⟩ := YQ g nn
 exact ⟨_,_,_,_,X4 (fun y => wu) (YL rows c rows.length) (List.getElem?_eq_getElem pos) (List.getElem?_eq_getElem (by omega)) F G ⟨m,m1,rfl⟩ m2 ⟨z,z1,rfl⟩ z2⟩
noncomputable def Ya (rows:List (List Nat)) (c:Nat):Prop := ∃ l t r b,Rd rows c l t r b /\ Full rows c l t r b
noncomputable def bxOf (rows:List (List Nat)) (c:Nat):Bx := by
 classical
 exact if h:∃ b:Nat × Nat × Nat × Nat,Rd rows c b.1 b.2.1 b.2.2.1 b.2.2.2 then ⟨(Classical.choose h).1,(Classical.choose h).2.1,(Classical.choose h).2.2.1,(Classical.choose h).2.2.2⟩ else ⟨0,0,0,0⟩
theorem Zt {rows:List (List Nat)} {c l t r b:Nat} (h:Rd rows c l t r b):bxOf rows c = ⟨l,t,r,b⟩ := by
 unfold bxOf
 have e:∃ b:Nat × Nat × Nat × Nat,Rd rows c b.1 b.2.1 b.2.2.1 b.2.2.2 := ⟨(l,t,r,b),h⟩
 rw [dif_pos e]
 obtain ⟨e1,e2,e3,e4⟩ := (Classical.choose_spec e).uniq h
 rw [e1,e2,e3,e4]
theorem ZX {W G:Int} {as bs:List Bx} (p:as.Perm bs) (h:Page W G bs):Page W G as :=
 qw (wl h.tiles p) h.w h.g (by rw [p.length_eq]; exact h.n24)
theorem YR {rows:List (List Nat)} {W:Nat} (hW:∀ r ∈ rows,r.length = W) (h1:1 <= W) (h2:1 <= rows.length) {S:List Nat} (nd:S.Nodup) (hS:∀ c,c ∈ S ↔ ∃ x y:Nat,(rw rows y)[x]? = some c) :
   Page (W:Nat) (rows.length:Nat) (S.map (bxOf rows)) ↔ S.length <= 24 /\ ∀ c ∈ S,Ya rows c := by
 have rdS:∀ c ∈ S,∃ b:Nat × Nat × Nat × Nat,Rd rows c b.1 b.2.1 b.2.2.1 b.2.2.2 := fun c hc => by
   obtain ⟨x,y,h⟩ := (hS c).mp hc
   obtain ⟨l,t,r,b,R⟩ := zbg h
   exact ⟨(l,t,r,b),R⟩
 obtain ⟨B,hB⟩ : ∃ B:Nat -> Nat × Nat × Nat × Nat,∀ c ∈ S,Rd rows c (B c).1 (B c).2.1 (B c).2.2.1 (B c).2.2.2 := by
   classical
   exact ⟨fun c => if h:c ∈ S then Classical.choose (rdS c h) else (0,0,0,0),fun c hc => by
     simp only [dif_pos hc]
     exact Classical.choose_spec (rdS c hc)⟩
 have e:S.map (bxOf rows) = S.map fun c => (⟨(B c).1,(B c).2.1,(B c).2.2.1,(B c).2.2.2⟩ : Bx) := List.map_congr_left fun c hc => Zt (hB c hc)
 have ti := Qa hW nd hS hB
 rw [<- e] at ti
 constructor
 · intro p
   have len := p.n24
   rw [List.length_map] at len
   exact ⟨len,fun c hc => ⟨_,_,_,_,hB c hc,ti.mp p.tiles c hc⟩⟩
 · intro ⟨len,F⟩
   refine qw (ti.mpr fun c hc => ?_) (by omega) (by omega) (by rw [List.length_map]; exact len)
   obtain ⟨l,t,r,b,R,Fu⟩ := F c hc
   obtain ⟨e1,e2,e3,e4⟩ := R.uniq (hB c hc)
   rw [<- e1,<- e2,<- e3,<- e4]
   exact Fu
end _Pic
namespace _Stb
open PySem
noncomputable def Rise (xs:Array Nat):Prop := xs.toList.Pairwise (· < ·)
theorem Rise.lt {xs:Array Nat} (r:Rise xs) {i j a b:Nat} (h:i < j) (ha:xs[i]? = some a) (hb:xs[j]? = some b):a < b := by
 rw [<- Array.getElem?_toList] at ha hb
 obtain ⟨hi,ea⟩ := List.getElem?_eq_some_iff.mp ha
 obtain ⟨hj,eb⟩ := List.getElem?_eq_some_iff.mp hb
 have := List.pairwise_iff_getElem.mp r i j hi hj h
 rw [ea,eb] at this
 exact this
theorem JO {xs:Array Nat} {j:Nat} (r:Rise xs):∀ (f lo hi:Nat),hi - lo <= f -> lo <= hi -> hi <= xs.size -> (∀ i a,i < lo -> xs[i]? = some a -> a < j) -> (∀ i a,hi <= i -> xs[i]? = some a -> j <= a) ->
   SetTable.below.go xs j f lo hi <= xs.size /\ (∀ i a,i < SetTable.below.go xs j f lo hi -> xs[i]? = some a -> a < j) /\ (∀ i a,SetTable.below.go xs j f lo hi <= i -> xs[i]? = some a -> j <= a) := by
 intro f
 induction f with
 | zero =>
   intro lo hi h1 h2 h3 hl hh
   rw [SetTable.below.go]
   have:lo = hi := by omega
   subst this
   exact ⟨h3,hl,hh⟩
 | succ f ih =>
   intro lo hi h1 h2 h3 hl hh
   rw [SetTable.below.go]
   by_cases h:lo < hi
   · rw [if_pos h]
     have hm:(lo + hi) / 2 < xs.size := by omega
     have e:xs[(lo + hi) / 2]? = some (xs.getD ((lo + hi) / 2) j) := by
       rw [Array.getElem?_eq_getElem hm,Array.getD,dif_pos hm]
       rfl
     dsimp only
     by_cases hc:xs.getD ((lo + hi) / 2) j < j
     · rw [if_pos hc]
       refine ih _ _ (by omega) (by omega) h3 (fun i a hi' ea => ?_) hh
       by_cases e2:i = (lo + hi) / 2
       · subst e2
         rw [e] at ea
         injection ea with ea
         omega
       · have := r.lt (show i < (lo + hi) / 2 by omega) ea e
         omega
     · rw [if_neg hc]
       refine ih _ _ (by omega) (by omega) (by omega) hl (fun i a hi' ea => ?_)
       by_cases e2:i = (lo + hi) / 2
       · subst e2
         rw [e] at ea
         injection ea with ea
         omega
       · have := r.lt (show (lo + hi) / 2 < i by omega) e ea
         omega
   · rw [if_neg h]
     have:lo = hi := by omega
     subst this
     exact ⟨h3,hl,hh⟩
theorem qr {xs:Array Nat} (j:Nat) (r:Rise xs):SetTable.below xs j <= xs.size /\ (∀ i a,i < SetTable.below xs j -> xs[i]? = some a -> a < j) /\ (∀ i a,SetTable.below xs j <= i -> xs[i]? = some a -> j <= a) :=
 JO r _ _ _ (by omega) (Nat.zero_le _) (Nat.le_refl _) (fun i _ h _ => absurd h (Nat.not_lt_zero _)) (fun i a h e => by
   rw [Array.getElem?_eq_none h] at e
   cases e)
theorem below_at {xs:Array Nat} (r:Rise xs) {i a:Nat} (h:xs[i]? = some a):SetTable.below xs (a + 1) = i + 1 := by
 obtain ⟨h1,h2,h3⟩ := qr (a + 1) r
 have hi:i < xs.size := (Array.getElem?_eq_some_iff.mp h).1
 refine Nat.le_antisymm (Nat.not_lt.mp fun z => ?_) (Nat.not_lt.mp fun z => ?_)
 · have hz:i + 1 < xs.size := by omega
   have e := Array.getElem?_eq_getElem hz
   have a1 := h2 _ _ z e
   have a2 := r.lt (Nat.lt_succ_self i) h e
   omega
 · have := h3 _ _ (show SetTable.below xs (a + 1) <= i by omega) h
   omega
theorem X5 {xs:Array Nat} (r:Rise xs):SetTable.below xs 0 = 0 := by
 obtain ⟨h1,h2,h3⟩ := qr 0 r
 refine Nat.le_antisymm (Nat.not_lt.mp fun z => ?_) (Nat.zero_le _)
 have hz:0 < xs.size := by omega
 exact absurd (h2 _ _ z (Array.getElem?_eq_getElem hz)) (Nat.not_lt_zero _)
theorem Xj {xs:Array Nat} {j:Nat} (r:Rise xs) (n:xs[SetTable.below xs j]? ≠ some j):Rise (SetTable.insertAt xs (SetTable.below xs j) j) := by
 obtain ⟨h1,h2,h3⟩ := qr j r
 generalize SetTable.below xs j = p at n h1 h2 h3
 unfold Rise SetTable.insertAt
 have e:((xs.extract 0 p).push j ++ xs.extract p xs.size).toList = xs.toList.take p ++ j :: xs.toList.drop p := by
   simp only [Array.toList_append,Array.toList_push,Array.toList_extract,List.extract_eq_drop_take,List.drop_zero,Nat.sub_zero,List.append_assoc,List.singleton_append]
   rw [List.take_of_length_le (l := xs.toList.drop p) (by rw [List.length_drop,Array.length_toList]; exact Nat.le_refl _)]
 rw [e]
 rw [List.pairwise_append,List.pairwise_cons]
 refine ⟨List.Pairwise.sublist (List.take_sublist _ _) r,⟨fun b hb => ?_,List.Pairwise.sublist (List.drop_sublist _ _) r⟩,fun a ha b hb => ?_⟩
 · obtain ⟨i,hi,rfl⟩ := List.mem_iff_getElem.mp hb
   rw [List.getElem_drop]
   rw [List.length_drop,Array.length_toList] at hi
   have eb:xs[p + i]? = some (xs.toList[p + i]'(by rw [Array.length_toList]; omega)) := by
     rw [<- Array.getElem?_toList,List.getElem?_eq_getElem (by rw [Array.length_toList]; omega)]
   have le := h3 _ _ (Nat.le_add_right p i) eb
   refine Nat.lt_of_le_of_ne le fun z => ?_
   by_cases e0:i = 0
   · subst e0
     exact n (eb.trans (congrArg some z.symm))
   · have hp:p < xs.size := by omega
     have ep := Array.getElem?_eq_getElem hp
     have a1 := h3 _ _ (Nat.le_refl p) ep
     have a2 := r.lt (show p < p + i by omega) ep eb
     omega
 · have ha':a < j := by
     obtain ⟨i,hi,rfl⟩ := List.mem_iff_getElem.mp ha
     rw [List.getElem_take]
     rw [List.length_take,Array.length_toList] at hi
     refine h2 i _ (by omega) ?_
     rw [<- Array.getElem?_toList,List.getElem?_eq_getElem]
   rcases List.mem_cons.mp hb with rfl | hb
   · exact ha'
   · refine Nat.lt_of_lt_of_le ha' ?_
     obtain ⟨i,hi,rfl⟩ := List.mem_iff_getElem.mp hb
     rw [List.getElem_drop]
     rw [List.length_drop,Array.length_toList] at hi
     refine h3 (p + i) _ (Nat.le_add_right _ _) ?_
     rw [<- Array.getElem?_toList,List.getElem?_eq_getElem]
theorem X6 {t:SetTable} {at_:Nat -> Int} {h:Int}:∀ (f:Nat) (p:SetTable.Probe) (j:Nat) (d:Option Nat),(∀ d,p.dummy = some d -> ∀ i,t.slot d ≠ .live i) -> SetTable.probe.go t at_ h f p = some (.empty j d) -> ∀ i,t.slot (d.getD j) ≠ .live i := by
 intro f
 induction f with
 | zero =>
   intro p j d _ e
   rw [SetTable.probe.go] at e
   cases e
 | succ f ih =>
   intro p j d hd e
   rw [SetTable.probe.go] at e
   have adv:∀ q:SetTable.Probe,(t.advance q).dummy = q.dummy := by
     intro q
     unfold SetTable.advance
     split <;> rfl
   cases hs:t.slot p.j with
   | empty =>
     rw [hs] at e
     injection e with e
     injection e with e1 e2
     subst e1; subst e2
     intro i
     cases hp:p.dummy with
     | none => rw [Option.getD_none,hs]; intro z; cases z
     | some d => exact hd d hp i
   | dummy =>
     rw [hs] at e
     refine ih _ _ _ (fun d' hd' i => ?_) e
     rw [adv] at hd'
     injection hd' with hd'
     subst hd'
     rw [hs]
     intro z
     cases z
   | live i0 =>
     rw [hs] at e
     dsimp only at e
     split at e
     · injection e with e
       cases e
     · refine ih _ _ _ (fun d' hd' => ?_) e
       rw [adv] at hd'
       exact hd d' hd'
theorem Qc {t:SetTable} {h:Int} {s:Nat} {b:Bool} (e:t.freeSlot h = some (s,b)):∀ i,t.slot s ≠ .live i := by
 unfold SetTable.freeSlot SetTable.probe at e
 split at e
 · next j d hp =>
   injection e with e
   injection e with e1 _
   subst e1
   exact X6 _ _ _ _ (fun d hd => by cases hd) hp
 · cases e
structure Tg (b:Bool) (t:SetTable):Prop where
 led:t.led = b
 rise:t.plain = true -> Rise t.place
theorem Q2 {b:Bool}:Tg b (.fresh 0 0 b) := ⟨rfl,fun _ => List.Pairwise.nil⟩
theorem wo {b:Bool} {t:SetTable} {n:Nat} (g:Tg b t):Tg b (t.standIn n) := ⟨g.led,fun z => by cases z⟩
theorem zaO {b:Bool} {t:SetTable} (g:Tg b t):Tg b { t with plain := false } := ⟨g.led,fun z => by cases z⟩
theorem Qd {b:Bool} {t:SetTable} (es:Array (Int × Value)) (h:Int) (x:Value) (g:Tg b t):Tg b (layNew t es h x).2.1 := by
 unfold layNew
 split
 · next s wd e =>
   have nl := Qc e
   have gp:Tg b (t.put s).1 := by
     refine ⟨g.led,fun hp => Xj (g.rise hp) fun z => ?_⟩
     refine nl (SetTable.below t.place s) ?_
     unfold SetTable.slot
     rw [if_pos (by rw [z]; exact beq_self_eq_true _)]
   dsimp only
   unfold SetTable.orStandIn
   split
   · exact gp
   · exact wo gp
 · exact wo g
theorem Qe (f:Nat -> Option Nat):∀ (l:List Nat),l.Pairwise (· < ·) -> ((l.filterMap fun j => (f j).map (j,·)).map (·.1)).Pairwise (· < ·) /\ ∀ a ∈ (l.filterMap fun j => (f j).map (j,·)).map (·.1),a ∈ l := by
 intro l
 induction l with
 | nil => intro _; exact ⟨List.Pairwise.nil,fun a h => h⟩
 | cons k l ih =>
   intro h
   obtain ⟨h1,h2⟩ := List.pairwise_cons.mp h
   obtain ⟨i1,i2⟩ := ih h2
   rw [List.filterMap_cons]
   cases f k with
   | none => exact ⟨i1,fun a ha => List.mem_cons_of_mem _ (i2 a ha)⟩
   | some v =>
     refine ⟨List.pairwise_cons.mpr ⟨fun b hb => h1 b (i2 b hb),i1⟩,fun a ha => ?_⟩
     rcases List.mem_cons.mp ha with rfl | ha
     · exact List.mem_cons_self
     · exact List.mem_cons_of_mem _ (i2 a ha)
theorem Q3 {b:Bool} {t:SetTable} (es:Array (Int × Value)) (n:Nat) (g:Tg b t):Tg b (relayAll t es n).2.1 := by
 unfold relayAll
 split
 · next t' o e =>
   dsimp only
   split
   · unfold SetTable.relaid SetTable.laid at e
     cases hl:SetTable.layClean (SetTable.sizeAbove n - 1) (es.map (·.1)) with
     | none => rw [hl] at e; cases e
     | some w =>
       rw [hl] at e
       injection e with e
       injection e with e1 _
       subst e1
       exact ⟨g.led,fun _ => (Qe _ _ List.pairwise_lt_range).1⟩
   · exact wo g
 · exact wo g
end _Stb
namespace _L2
open PySem PySem.Spec PyProof.Rows PySem.W
end _L2
namespace _L2
open PySem PySem.Spec PyProof.Rows PySem.W
end _L2
namespace _L2
open PySem PySem.Spec PyProof.Rows
end _L2
namespace _L2
open PySem PySem.Spec PyProof.Rows PySem.W
end _L2
namespace _L2
open PySem PySem.Spec PyProof.Rows PySem.W
end _L2
namespace _L2
open PySem PySem.Spec PyProof.Rows PySem.W
section
variable {prog:Program} {w:World} {K:Type} [DecidableEq K] (knd:PySem.KeyKind prog w K)
noncomputable def SetG (h:Heap) (a:Addr) (S:K -> Bool) (n:Nat):Prop :=
 ∃ (o:Obj) (es:Array (Int × Value)) (ep:Nat) (t:SetTable),h.get? a = some o /\ o.ExactSet /\ o.data = .set es ep t /\ ElemsOf knd es.toList /\ (∀ k,S k = true ↔ ∃ e ∈ es.toList,knd.is k e.2 = true) /\ es.size < scanBound /\ t.fits es.size = true /\ es.size = n /\ _Stb.Tg (!w.params.followText "set-order") t
variable {knd} {A:Around} {E:Value -> Shared -> Prop} {s:Shared}
theorem SetG.congr {h:Heap} {a:Addr} {S S':K -> Bool} {n n':Nat} (g:SetG knd h a S n) (e:∀ k,S k = S' k) (en:n = n'):SetG knd h a S' n' := by
 have:S = S' := funext e
 subst this; subst en; exact g
theorem SetG.keep {h h':Heap} {a:Addr} {S:K -> Bool} {n:Nat} (g:SetG knd h a S n) (k:∀ o,h.get? a = some o -> h'.get? a = some o):SetG knd h' a S n :=
 let ⟨o,es,ep,t,ho,r⟩ := g
 ⟨o,es,ep,t,k o ho,r⟩
theorem jZ {h:Heap} {a:Addr} {o:Obj} {es es1:Array (Int × Value)} {ep:Nat} {t t1:SetTable} {S1:K -> Bool} (p:h.get? a = some o) (x:o.ExactSet) (d:o.data = .set es ep t) (el:ElemsOf knd es1.toList)
   (me:∀ k,S1 k = true ↔ ∃ e ∈ es1.toList,knd.is k e.2 = true) (bd:es1.size < scanBound) (ft:t1.fits es1.size = true) (g:_Stb.Tg (!w.params.followText "set-order") t1) :
   (h.update a (Obj.putSet es1 t1)).get? a = some { o with data := .set es1 (ep + 1) t1 } /\ SetG knd (h.update a (Obj.putSet es1 t1)) a S1 es1.size := by
 have z := (SetOf_store (knd := knd) p x d el me bd ft).1
 exact ⟨z,_,_,_,_,z,x,rfl,el,me,bd,ft,rfl,g⟩
theorem ZY {gv:Bool -> Sem Unit} (hgv:∀ (b:Bool) (s1:Shared) (Q1:Unit -> Shared -> Prop),Q1 () s1 -> wpAny (model prog w) A (gv b) Q1 E s1)
   {a:Addr} {o:Obj} {es es1:Array (Int × Value)} {ep:Nat} {t t2:SetTable} {S1:K -> Bool} (p:s.heap.get? a = some o) (x:o.ExactSet) (d:o.data = .set es ep t) (el:ElemsOf knd es1.toList)
   (me:∀ k,S1 k = true ↔ ∃ e ∈ es1.toList,knd.is k e.2 = true) (bd:es1.size < scanBound) (ft:t2.fits es1.size = true) (g:_Stb.Tg (!w.params.followText "set-order") t2) {was:Bool} {R:Option Bool -> Shared -> Prop}
   (q:∀ h',Heap.SameBut a s.heap h' -> SetG knd h' a S1 es1.size -> R (some true) { s with heap := h' }) :
   wpAny (model prog w) A (do
       storeSet a es1 t2
       if (!was && t2.tooFull) = true then do
           gv (relayAll t2 es1 (SetTable.grown es1.size)).2.2
           storeSet a (relayAll t2 es1 (SetTable.grown es1.size)).1 (relayAll t2 es1 (SetTable.grown es1.size)).2.1
           pure (some true)
         else pure (some true)) R E s := by
 refine wpAny_bind (wpAny_storeSet_of p d ?_ (fits_of_scanBound bd))
 obtain ⟨p1,g1⟩ := jZ (knd := knd) p x d el me bd ft g
 have sb := Heap.SameBut.update s.heap a (Obj.putSet es1 t2)
 split
 · have hp := relayAll_perm t2 es1 (SetTable.grown es1.size)
   have hf := relayAll_fits t2 es1 (SetTable.grown es1.size)
   have hg := _Stb.Q3 es1 (SetTable.grown es1.size) g
   generalize relayAll t2 es1 (SetTable.grown es1.size) = Z at hp hf hg ⊢
   obtain ⟨es2,t3,gave⟩ := Z
   dsimp only at hp hf hg ⊢
   have el2:ElemsOf knd es2.toList := el.perm hp
   have me2:∀ k',S1 k' = true ↔ ∃ e ∈ es2.toList,knd.is k' e.2 = true := fun k' => by
     rw [me k']
     exact ⟨fun ⟨e,a1,a2⟩ => ⟨e,hp.mem_iff.mpr a1,a2⟩,fun ⟨e,a1,a2⟩ => ⟨e,hp.mem_iff.mp a1,a2⟩⟩
   have sz:es2.size = es1.size := by
     have := hp.length_eq
     rwa [Array.length_toList,Array.length_toList] at this
   refine wpAny_bind (hgv _ _ _ (wpAny_bind (wpAny_storeSet_of p1 rfl ?_ (fits_of_scanBound (by omega)))))
   have g2 := (jZ (knd := knd) p1 x rfl el2 me2 (by omega) hf hg).2
   rw [sz] at g2
   exact wpAny_pure (q _ (sb.trans (Heap.SameBut.update _ a _)) g2)
 · exact wpAny_pure (q _ sb g1)
theorem Q4 {a:Addr} {S:K -> Bool} {n:Nat} {k:K} {v:Value} {Q:Bool -> Shared -> Prop} (hk:knd.is k v = true) (sc:v.scannable = true) (G:SetG knd s.heap a S n) (rm:n + 1 < scanBound)
   (q:∀ h',Heap.SameBut a s.heap h' -> SetG knd h' a (fun k' => S k' || decide (k' = k)) (if S k then n else n + 1) -> Q (!S k) { s with heap := h' }) :
   wpAny (model prog w) A (setAddHashed a v (knd.hash k)) Q E s := by
 obtain ⟨o,es,ep,t,p,x,d,el,me,bd,ft,en,g⟩ := id G
 unfold setAddHashed setAddHashedIn
 refine wpAny_holding (wpAny_bind (wpAny_setState_of p d ft ?_)); dsimp only
 rw [byScan_of sc bd el,if_pos rfl]
 unfold setAddByScan
 refine wpAny_bind (wpAny_bind (wpAny_rule (wpAny_bind (wpAny_setScan_of hk p d ft el ?_))))
 cases hr:List.findIdx? (fun e => knd.is k e.2) es.toList with
 | some j =>
   obtain ⟨hj,pj,_⟩ := List.findIdx?_eq_some_iff_getElem.mp hr
   have Sk:S k = true := (me k).mpr ⟨_,List.getElem_mem hj,pj⟩
   refine wpAny_pure (wpAny_pure ?_)
   have z := q s.heap (Heap.SameBut.refl a s.heap) (G.congr (fun k' => by
     by_cases e:k' = k
     · rw [e,Sk]; rfl
     · rw [decide_eq_false e,Bool.or_false]) (by rw [if_pos Sk]))
   rw [Sk] at z
   exact z
 | none =>
   dsimp only
   have Sk:S k = false := by
     cases z:S k with
     | false => rfl
     | true =>
       obtain ⟨e,he,hp⟩ := (me k).mp z
       have := List.findIdx?_eq_none_iff.mp hr e he
       rw [hp] at this
       cases this
   have gw:∀ (b:Bool) (s1:Shared) (Q1:Unit -> Shared -> Prop),Q1 () s1 -> wpAny (model prog w) A (match b with | true => rule "set.scan.the-table-gave-way" | false => pure ()) Q1 E s1 := fun b s1 Q1 z => by
     cases b
     · exact wpAny_pure z
     · exact wpAny_rule z
   have hp := layNew_perm t es (knd.hash k) v
   have hf := layNew_fits t es (knd.hash k) v
   have hg := _Stb.Qd es (knd.hash k) v g
   generalize layNew t es (knd.hash k) v = L at hp hf hg ⊢
   obtain ⟨es1,t1,was,gave⟩ := L
   dsimp only at hp hf hg ⊢
   rw [Array.toList_push] at hp
   have el1:ElemsOf knd es1.toList := (el.push hk sc).perm hp
   have me1 := mem_push_iff hk me hp
   have sz:es1.size = n + 1 := by
     have := hp.length_eq
     rw [List.length_append,Array.length_toList,Array.length_toList,en] at this
     exact this
   have bd1:es1.size < scanBound := by omega
   refine wpAny_bind (gw _ _ _ ?_)
   have fin:∀ h',Heap.SameBut a s.heap h' -> SetG knd h' a (fun k' => S k' || decide (k' = k)) es1.size -> Q true { s with heap := h' } := fun h' sb g' => by
     have z := q h' sb
     rw [Sk] at z
     exact z (g'.congr (fun _ => rfl) sz)
   split
   · refine wpAny_bind ?_
     rw [hashByValue_scannable 8 sc]
     refine wpAny_pure (ZY gw p x d el1 me1 bd1 ?_ ?_ fun h' sb g' => wpAny_pure (fin h' sb g'))
     · split
       · exact hf
       · exact SetTable.fits_plain_off hf
     · split
       · exact hg
       · exact _Stb.zaO hg
   · refine wpAny_bind (wpAny_pure ?_)
     rw [if_pos rfl]
     exact ZY gw p x d el1 me1 bd1 hf hg fun h' sb g' => wpAny_pure (fin h' sb g')
end
section
variable {K:Type} [DecidableEq K]
noncomputable def dd (l:List K):List K := l.foldl (fun σ k => if k ∈ σ then σ else σ ++ [k]) []
theorem qb (l:List K) (k:K):dd (l ++ [k]) = if k ∈ dd l then dd l else dd l ++ [k] := by
 unfold dd
 rw [List.foldl_append]
 rfl
theorem snoc_ind {P:List K -> Prop} (h0:P []) (h1:∀ l k,P l -> P (l ++ [k])) (l:List K):P l := by
 have:∀ m:List K,P m.reverse := by
   intro m
   induction m with
   | nil => exact h0
   | cons a m ih => rw [List.reverse_cons]; exact h1 _ _ ih
 have z := this l.reverse
 rwa [List.reverse_reverse] at z
theorem xH (l:List K):(dd l).Nodup /\ (∀ k,k ∈ dd l ↔ k ∈ l) /\ (dd l).length <= l.length := by
 refine snoc_ind (P := fun l => (dd l).Nodup /\ (∀ k,k ∈ dd l ↔ k ∈ l) /\ (dd l).length <= l.length) ⟨List.nodup_nil,fun k => Iff.rfl,Nat.le_refl _⟩ (fun l k ih => ?_) l
 obtain ⟨h1,h2,h3⟩ := ih
 rw [qb,List.length_append,List.length_singleton]
 by_cases h:k ∈ dd l
 · rw [if_pos h]
   refine ⟨h1,fun k' => ?_,by omega⟩
   rw [List.mem_append,List.mem_singleton,h2]
   exact ⟨.inl,fun z => z.elim id fun e => e ▸ (h2 k).mp h⟩
 · rw [if_neg h,List.length_append,List.length_singleton]
   refine ⟨List.nodup_append.mpr ⟨h1,by simp,fun a ha b hb => ?_⟩,fun k' => ?_,by omega⟩
   · rw [List.mem_singleton] at hb
     subst hb
     exact fun e => h (e ▸ ha)
   · rw [List.mem_append,List.mem_singleton,List.mem_append,List.mem_singleton,h2]
theorem jw:∀ (σ ks:List K),σ.Nodup -> (∀ k ∈ σ,k ∈ ks) -> ks.length = σ.length -> ks.Perm σ
 | [],ks,_,_,h => by
   rw [List.length_eq_zero_iff.mp h]
 | k :: σ,ks,nd,sub,h => by
   obtain ⟨n1,n2⟩ := List.nodup_cons.mp nd
   have hk := sub k List.mem_cons_self
   refine (List.perm_cons_erase hk).trans (List.Perm.cons k (jw σ _ n2 (fun k' hk' => ?_) ?_))
   · exact (List.mem_erase_of_ne (fun e:k' = k => n1 (e ▸ hk'))).mpr (sub k' (List.mem_cons_of_mem _ hk'))
   · rw [List.length_erase_of_mem hk,h]
     rfl
end
section
variable {prog:Program} {w:World} {K:Type} [DecidableEq K] {knd:PySem.KeyKind prog w K} {A:Around} {R:Result -> Shared -> Prop} {I:Addr} {fp wr:List Addr} {G:Array GenState -> Array GenState -> Prop} {n:Nat} {P:Nat -> Value -> Prop} {St:Nat -> Shared -> Prop}
theorem Qf {h:Heap} {a:Addr} {val:Nat -> K} {i:Nat} (g:SetG knd h a (fun k' => decide (k' ∈ dd ((List.range i).map val)) || decide (k' = val i)) (if decide (val i ∈ dd ((List.range i).map val)) = true then (dd ((List.range i).map val)).length else (dd ((List.range i).map val)).length + 1)) :
   SetG knd h a (fun k' => decide (k' ∈ dd ((List.range (i + 1)).map val))) (dd ((List.range (i + 1)).map val)).length := by
 have e:(List.range (i + 1)).map val = (List.range i).map val ++ [val i] := by rw [List.range_succ,List.map_append]; rfl
 refine g.congr (fun k => ?_) ?_
 · rw [e,qb]
   by_cases h:val i ∈ dd ((List.range i).map val)
   · rw [if_pos h]
     by_cases e:k = val i
     · rw [e,decide_eq_true h]; rfl
     · rw [decide_eq_false e,Bool.or_false]
   · rw [if_neg h,<- Bool.decide_or]
     exact decide_eq_decide.mpr (by rw [List.mem_append,List.mem_singleton])
 · rw [e,qb]
   by_cases h:val i ∈ dd ((List.range i).map val)
   · rw [if_pos h,if_pos (decide_eq_true h)]
   · rw [if_neg h,if_neg (by rw [decide_eq_false h]; exact Bool.false_ne_true),List.length_append]
     rfl
end
end _L2
namespace _L2
open PySem PySem.Spec PyProof.Rows PySem.W
section
variable {prog:Program} {w:World} {K:Type} [DecidableEq K] {knd:PySem.KeyKind prog w K} {A:Around} {E:Value -> Shared -> Prop} {s:Shared}
abbrev setO (b:Bool):Obj := { cls := .type "set",dict := none,data := .set #[] 0 (.fresh 0 0 b) }
theorem X7 {h:Heap} {a:Addr} (e:h.get? a = some (setO (!w.params.followText "set-order"))):SetG knd h a (fun _ => false) 0 :=
 ⟨_,#[],0,_,e,⟨rfl,rfl,rfl⟩,rfl,fun e he => by simp at he,fun k => by simp,by decide,by rfl,rfl,_Stb.Q2⟩
theorem Q5 (v:Value) {Q1:Value -> Shared -> Prop} (q:Q1 (.ref s.heap.objs.size) { s with heap := s.heap.push (setO (!w.params.followText "set-order")) }) :
   codeAny (model prog w) A (.call (.builtin "set.__new__") ⟨[.type "set",v],[]⟩) (wants Q1 E) s := by
 refine codeAny_of_tree ?_; show wpAny _ A.in1 (do checkBuiltinCall "set.__new__" ⟨[.type "set",v],[]⟩; again (.builtin "set.__new__" ⟨[.type "set",v],[]⟩)) _ _ s
 refine wpAny_bind (wpAny_of_eq (F.newCall_set_1 v) (wpAny_pure ⟨plainId_quiet F.plain_set_new _,codeAny_builtin F.entry_set_new ?_⟩)); rw [Around.under_plainId F.plain_set_new _]
 unfold Builtin.«set.__new__» Builtin.Frozenset.newClass; have hsub := sub_set_self
 obtain ⟨hp,g,d,tk,os⟩ := s
 dsimp only at q ⊢; wp_walk
 refine wpAny_askSetting (wpAny_pure ?_); dsimp only
 simp only [newObj]
 refine wpAny_bind (wpAny_alloc (wpAny_pure ?_)); exact wpAny_pure q
end
end _L2
namespace _L2
open PySem PySem.Spec PyProof.Rows PySem.W
namespace _SI
theorem X8:entryFor table "set.__iter__" = some Builtin.«frozenset.__iter__» := entryFor_alias (id' := "frozenset.__iter__") (by kernel_rfl) rfl (by decide +kernel) (by kernel_rfl)
theorem slot_next:Slot "set_iterator" "__next__" "set_iterator.__next__" := .of (owner := "set_iterator") (n := "__next__") (by rw [typeLookup_type,builtinLookup_eq_fast]; kernel_rfl) (by decide +kernel) (by decide +kernel) (by decide +kernel) (by first | exact .inl (by decide +kernel) | exact .inr (by decide +kernel)) (by rw [isSubtype_type]; kernel_rfl)
theorem ZZ:Slot "set_iterator" "__iter__" "set_iterator.__iter__" := .of (owner := "set_iterator") (n := "__iter__") (by rw [typeLookup_type,builtinLookup_eq_fast]; kernel_rfl) (by decide +kernel) (by decide +kernel) (by decide +kernel) (by first | exact .inl (by decide +kernel) | exact .inr (by decide +kernel)) (by rw [isSubtype_type]; kernel_rfl)
theorem entry_next:entryFor table "set_iterator.__next__" = some Builtin.«set_iterator.__next__» := entryFor_of_tree (by kernel_rfl)
theorem entry_self:entryFor table "set_iterator.__iter__" = some Builtin.«dict_keyiterator.__iter__» := entryFor_alias (id' := "dict_keyiterator.__iter__") (by kernel_rfl) rfl (by decide +kernel) (by kernel_rfl)
theorem args_next (a:Value):argsOk "set_iterator.__next__" ⟨[a],[]⟩ := by unfold argsOk; kernel_rfl
theorem args_self (a:Value):argsOk "set_iterator.__iter__" ⟨[a],[]⟩ := by unfold argsOk; kernel_rfl
theorem JP:typeLookup (.type "set") "__len__" = pure (some (.builtin "set.__len__")) := by rw [typeLookup_type,builtinLookup_eq_fast]; kernel_rfl
end _SI
noncomputable def yU (h:Heap) (it:Addr) (first:Value) (i:Nat) (a:Addr) (n ep:Nat):Prop := ∃ o,h.get? it = some o /\ o.cls = .type "set_iterator" /\ o.data = .fields #[first,.int i 0,.ref a,.int n 0,.int ep 0]
theorem yU.type {s:Shared} {it a:Addr} {first:Value} {i n ep:Nat} (h:yU s.heap it first i a n ep):s.TypeIs (.ref it) "set_iterator" := let ⟨o,e,c,_⟩ := h; ⟨o,e,c⟩
theorem yU.at_ {h h':Heap} {it a:Addr} {first:Value} {i n ep:Nat} (x:yU h it first i a n ep) (k:∀ o,h.get? it = some o -> h'.get? it = some o):yU h' it first i a n ep := let ⟨o,e,r⟩ := x; ⟨o,k o e,r⟩
noncomputable def SAt (a:Addr) (es:Array (Int × Value)) (ep:Nat) (t:SetTable) (h:Heap):Prop := ∃ o,h.get? a = some o /\ o.ExactSet /\ o.data = .set es ep t /\ t.fits es.size = true
theorem SAt.keep {a:Addr} {es:Array (Int × Value)} {ep:Nat} {t:SetTable} {h h':Heap} (x:SAt a es ep t h) (k:∀ o,h.get? a = some o -> h'.get? a = some o):SAt a es ep t h' := let ⟨o,e,r⟩ := x; ⟨o,k o e,r⟩
section
variable {prog:Program} {w:World} {A:Around} {E:Value -> Shared -> Prop} {s:Shared} {it a:Addr} {i n ep sl:Nat} {es:Array (Int × Value)} {t:SetTable}
theorem Q6 {Q:Option Value -> Shared -> Prop} {x:Value} {j:Nat} (hit:yU s.heap it (.int sl 0) i a es.size ep) (hs:SAt a es ep t s.heap) (nx:∀ {A:Around} {E:Value -> Shared -> Prop} {Q:Option (Value × Nat) -> Shared -> Prop},Q (some (x,j)) s -> wpAny (model prog w) A (setNext a sl i ep) Q E s)
   (q:∀ h',yU h' it (.int j 0) (i + 1) a es.size ep -> Heap.SameBut it s.heap h' -> Q (some x) { s with heap := h' }):wpAny (model prog w) A (pyNext (.ref it)) Q E s := by
 obtain ⟨oI,hoI,hcI,hfI⟩ := id hit
 obtain ⟨o,ho,hx,hd,hf⟩ := id hs
 unfold pyNext
 refine wpAny_bind (wpAny_attempt (wpAny_callSpecial?_slot (name := Str.ofString "__next__") hit.type _SI.slot_next (wpAny_call_entry _SI.slot_next hit.type _SI.entry_next ?_ (_SI.args_next _))))
 unfold Builtin.«set_iterator.__next__»
 refine wpAny_bind (wpAny_pure (wpAny_bind (wpAny_fieldsOf hoI hfI ?_)))
 dsimp only
 refine wpAny_bind (wpAny_setEntries_of ho hd hf ?_)
 refine wpAny_ite_split (fun z => absurd z (by simp)) (fun _ => ?_)
 refine wpAny_bind (nx ?_)
 dsimp only
 refine wpAny_bind (wpAny_setField hoI hfI (by simp) ?_)
 have e1 := Heap.get?_update_self (Obj.mapFields (·.setIfInBounds 0 (rawInt j))) hoI (Obj.isFreed_of_fields (Obj.data_mapFields hfI _))
 have f1 := Obj.data_mapFields hfI (·.setIfInBounds 0 (rawInt j))
 refine wpAny_bind (wpAny_setField e1 f1 (by simp) ?_)
 refine wpAny_pure ⟨_,rfl,wpAny_pure (q _ ⟨_,Heap.get?_update_self _ e1 (Obj.isFreed_of_fields (Obj.data_mapFields f1 _)),?_,?_⟩ ((Heap.SameBut.update ..).trans (Heap.SameBut.update ..)))⟩
 · rw [Obj.cls_mapFields,Obj.cls_mapFields]; exact hcI
 · rw [Obj.data_mapFields f1]; simp [rawInt]
theorem JQ {Q:Option Value -> Shared -> Prop} (hh:A.handled = none) (hit:yU s.heap it (.int sl 0) i a es.size ep) (hs:SAt a es ep t s.heap) (nx:∀ {A:Around} {E:Value -> Shared -> Prop} {Q:Option (Value × Nat) -> Shared -> Prop},Q none s -> wpAny (model prog w) A (setNext a sl i ep) Q E s)
   (q:∀ h',Heap.ExtBut it s.heap h' -> Q none { s with heap := h' }):wpAny (model prog w) A (pyNext (.ref it)) Q E s := by
 obtain ⟨oI,hoI,hcI,hfI⟩ := id hit
 obtain ⟨o,ho,hx,hd,hf⟩ := id hs
 unfold pyNext
 refine wpAny_bind (wpAny_attempt (wpAny_callSpecial?_slot (name := Str.ofString "__next__") hit.type _SI.slot_next (wpAny_call_entry _SI.slot_next hit.type _SI.entry_next ?_ (_SI.args_next _))))
 unfold Builtin.«set_iterator.__next__»
 refine wpAny_bind (wpAny_pure (wpAny_bind (wpAny_fieldsOf hoI hfI ?_)))
 dsimp only
 refine wpAny_bind (wpAny_setEntries_of ho hd hf ?_)
 refine wpAny_ite_split (fun z => absurd z (by simp)) (fun _ => ?_)
 refine wpAny_bind (nx ?_)
 dsimp only
 refine wpAny_bind (wpAny_setField hoI hfI (by simp) (wpAny_bind ?_))
 simp only [newExc,newTuple]; refine wpAny_bind (wpAny_newObj_type (wpAny_bind (m := firstArgMember _ _) (wpAny_of_eq (a := Value.none) (by first | rfl | (simp only [firstArgMember]; rfl)) (wpAny_newObj_type ?_ (by size_fits)))) (by size_fits))
 simp only [raiseNew]; refine wpAny_bind (wpAny_handled ?_); rw [show A.in1.handled = none from hh]; refine wpAny_bind (wpAny_pure (wpAny_throw ?_))
 refine wpAny_bind (wpAny_isInstance (T := "StopIteration") (b := true) ⟨_,Heap.get?_push_size _ rfl,rfl⟩ isSubtype_stop (wpAny_pure (q _ (((Heap.SameBut.update ..).extBut.push _).push _))))
theorem Qg {Q:Option Value -> Shared -> Prop} {x:Value} {tp:Addr} {otp:Obj} {pl:Array Value} {c hx':Nat} {hsh:Int} {tk:Tok} (hit:yU s.heap it (.ref tp) i a es.size ep) (hs:SAt a es ep t s.heap) (htp:s.heap.get? tp = some otp) (hpl:otp.data = .seq pl c) (hp:pl[i]? = some (.int (hx':Nat) tk)) (he:es[hx']? = some (hsh,x))
   (q:∀ h',yU h' it (.ref tp) (i + 1) a es.size ep -> Heap.SameBut it s.heap h' -> Q (some x) { s with heap := h' }):wpAny (model prog w) A (pyNext (.ref it)) Q E s := by
 obtain ⟨oI,hoI,hcI,hfI⟩ := id hit
 obtain ⟨o,ho,hx,hd,hf⟩ := id hs
 unfold pyNext
 refine wpAny_bind (wpAny_attempt (wpAny_callSpecial?_slot (name := Str.ofString "__next__") hit.type _SI.slot_next (wpAny_call_entry _SI.slot_next hit.type _SI.entry_next ?_ (_SI.args_next _))))
 unfold Builtin.«set_iterator.__next__»
 refine wpAny_bind (wpAny_pure (wpAny_bind (wpAny_fieldsOf hoI hfI ?_)))
 dsimp only
 refine wpAny_bind (wpAny_setEntries_of ho hd hf ?_)
 refine wpAny_ite_split (fun z => absurd z (by simp)) (fun _ => ?_)
 unfold seqItems?
 refine wpAny_bind (wpAny_bind (wpAny_load htp ?_))
 rw [hpl]
 refine wpAny_pure ?_
 dsimp only
 rw [Int.toNat_natCast,hp]
 dsimp only
 unfold setNextDrawn
 refine wpAny_bind (wpAny_bind (wpAny_setState_of ho hd hf ?_))
 dsimp only
 refine wpAny_ite_split (fun z => absurd z (by simp)) (fun _ => ?_)
 rw [Int.toNat_natCast,he]
 refine wpAny_pure ?_
 refine wpAny_bind (wpAny_setField hoI hfI (by simp) ?_)
 refine wpAny_pure ⟨_,rfl,wpAny_pure (q _ ⟨_,Heap.get?_update_self _ hoI (Obj.isFreed_of_fields (Obj.data_mapFields hfI _)),(Obj.cls_mapFields ..).trans hcI,?_⟩ (Heap.SameBut.update ..))⟩
 rw [Obj.data_mapFields hfI]; simp [rawInt]
theorem Q7 {Q:Option Value -> Shared -> Prop} {tp:Addr} {otp:Obj} {pl:Array Value} {c:Nat} (hh:A.handled = none) (hit:yU s.heap it (.ref tp) i a es.size ep) (hs:SAt a es ep t s.heap) (htp:s.heap.get? tp = some otp) (hpl:otp.data = .seq pl c) (hp:pl[i]? = none)
   (q:∀ h',Heap.ExtBut it s.heap h' -> Q none { s with heap := h' }):wpAny (model prog w) A (pyNext (.ref it)) Q E s := by
 obtain ⟨oI,hoI,hcI,hfI⟩ := id hit
 obtain ⟨o,ho,hx,hd,hf⟩ := id hs
 unfold pyNext
 refine wpAny_bind (wpAny_attempt (wpAny_callSpecial?_slot (name := Str.ofString "__next__") hit.type _SI.slot_next (wpAny_call_entry _SI.slot_next hit.type _SI.entry_next ?_ (_SI.args_next _))))
 unfold Builtin.«set_iterator.__next__»
 refine wpAny_bind (wpAny_pure (wpAny_bind (wpAny_fieldsOf hoI hfI ?_)))
 dsimp only
 refine wpAny_bind (wpAny_setEntries_of ho hd hf ?_)
 refine wpAny_ite_split (fun z => absurd z (by simp)) (fun _ => ?_)
 unfold seqItems?
 refine wpAny_bind (wpAny_bind (wpAny_load htp ?_))
 rw [hpl]
 refine wpAny_pure ?_
 dsimp only
 rw [Int.toNat_natCast,hp]
 dsimp only
 refine wpAny_bind (wpAny_setField hoI hfI (by simp) ?_)
 have e1 := Heap.get?_update_self (Obj.mapFields (·.setIfInBounds 0 (rawInt 0))) hoI (Obj.isFreed_of_fields (Obj.data_mapFields hfI _))
 have f1 := Obj.data_mapFields hfI (·.setIfInBounds 0 (rawInt 0))
 refine wpAny_bind (wpAny_setField e1 f1 (by simp) (wpAny_bind ?_))
 simp only [newExc,newTuple]; refine wpAny_bind (wpAny_newObj_type (wpAny_bind (m := firstArgMember _ _) (wpAny_of_eq (a := Value.none) (by first | rfl | (simp only [firstArgMember]; rfl)) (wpAny_newObj_type ?_ (by size_fits)))) (by size_fits))
 simp only [raiseNew]; refine wpAny_bind (wpAny_handled ?_); rw [show A.in1.handled = none from hh]; refine wpAny_bind (wpAny_pure (wpAny_throw ?_))
 refine wpAny_bind (wpAny_isInstance (T := "StopIteration") (b := true) ⟨_,Heap.get?_push_size _ rfl,rfl⟩ isSubtype_stop (wpAny_pure (q _ ((((Heap.SameBut.update ..).trans (Heap.SameBut.update ..)).extBut.push _).push _))))
theorem YS {Q:Value -> Shared -> Prop} {first:Value} (hit:yU s.heap it first i a n ep) (q:Q (.ref it) s):wpAny (model prog w) A (pyIter (.ref it)) Q E s := by
 refine wpAny_pyIter_slot hit.type _SI.ZZ (wpAny_call_entry _SI.ZZ hit.type _SI.entry_self ?_ (_SI.args_self _))
 exact wpAny_pure ⟨_,rfl, "set_iterator",_,hit.type,_SI.slot_next.lookup,q⟩
end
end _L2
namespace _L2
open PySem PySem.Spec PyProof.Rows PySem.W
theorem j0 {α:Type} {l:List α} {i:Nat} {x:α} (h:l[i]? = some x):(x :: l.eraseIdx i).Perm l := by
 obtain ⟨hi,e⟩ := List.getElem?_eq_some_iff.mp h
 subst e
 have z:l = l.take i ++ l[i] :: l.drop (i + 1) := by
   rw [List.getElem_cons_drop,List.take_append_drop]
 rw [List.eraseIdx_eq_take_drop_succ]
 exact (List.perm_middle.symm).trans (List.Perm.of_eq z.symm)
theorem JR {α:Type} (next:Nat -> Nat):∀ (f k:Nat) (l:List α) (out:Array α),l.length <= f -> (pickOrder.go next f k l out).toList.Perm (out.toList ++ l) := by
 intro f
 induction f with
 | zero =>
   intro k l out h
   rw [List.length_eq_zero_iff.mp (Nat.le_zero.mp h),List.append_nil,pickOrder.go]
 | succ f ih =>
   intro k l out h
   rw [pickOrder.go]
   cases e:l[next k % l.length]? with
   | none =>
     have:l = [] := by
       cases l with
       | nil => rfl
       | cons b l =>
         have := List.getElem?_eq_none_iff.mp e
         have z := Nat.mod_lt (next k) (show 0 < (b :: l).length by simp)
         omega
     rw [this,List.append_nil]
   | some x =>
     dsimp only
     have p := j0 e
     have pl := p.length_eq
     rw [List.length_cons] at pl
     refine (ih _ _ _ (by omega)).trans ?_
     rw [Array.toList_push,List.append_assoc]
     exact List.Perm.append_left _ p
theorem Qh {α:Type} (next:Nat -> Nat) (xs:Array α):(pickOrder next xs).toList.Perm xs.toList := by
 have := JR next xs.size 0 xs.toList #[] (by rw [Array.length_toList]; exact Nat.le_refl _)
 exact this
section
variable {prog:Program} {w:World} {A:Around} {E:Value -> Shared -> Prop} {s:Shared} {a:Addr} {ep:Nat} {es:Array (Int × Value)} {t:SetTable}
theorem wp_choose {Q:Nat -> Shared -> Prop} {src:Source} {n:Nat} (hn:n ≠ 0) (q:∀ k d',k < n -> Q k { s with drawn := d' }):wpAny (model prog w) A (choose src n) Q E s := fun Γ p _ =>
 ⟨hn,q _ _ (Nat.mod_lt _ (Nat.pos_of_ne_zero hn))⟩
theorem JS {α:Type}:∀ (n:Nat) (xs:List α) (s:Shared) (Q:List α -> Shared -> Prop),xs.length <= n -> (∀ l d',l.Perm xs -> Q l { s with drawn := d' }) -> wpAny (model prog w) A (drawOrder n xs) Q E s := by
 intro n
 induction n with
 | zero =>
   intro xs s Q h q
   rw [List.length_eq_zero_iff.mp (Nat.le_zero.mp h)] at q ⊢
   exact wpAny_pure (q [] s.drawn (List.Perm.refl _))
 | succ n ih =>
   intro xs s Q h q
   cases xs with
   | nil => exact wpAny_pure (q [] s.drawn (List.Perm.refl _))
   | cons x xs =>
     refine wpAny_bind (wp_choose (by simp) fun k d' hk => ?_)
     have e := List.getElem?_eq_getElem hk
     rw [e]
     dsimp only
     have p := j0 e
     have pl := p.length_eq
     rw [List.length_cons] at pl
     refine wpAny_bind (ih _ _ _ (by omega) fun l d2 hl => wpAny_pure ?_)
     exact q _ _ ((List.Perm.cons _ hl).trans p)
noncomputable def Nx (prog:Program) (w:World) (a:Addr) (es:Array (Int × Value)) (ep:Nat) (t:SetTable) (ord:List Value) (sl:Nat -> Nat):Prop :=
 ∀ (i:Nat) (s:Shared) (A:Around) (E:Value -> Shared -> Prop) (Q:Option (Value × Nat) -> Shared -> Prop),SAt a es ep t s.heap -> i <= es.size -> Q (ord[i]?.map fun x => (x,sl (i + 1))) s -> wpAny (model prog w) A (setNext a (sl i) i ep) Q E s
theorem JT (b:w.params.followText "set-order" = true):Nx prog w a es ep t ((pickOrder (w.params.setOrder a ep) es).toList.map (·.2)) (fun _ => 0) := by
 intro i s A E Q hs hi q
 obtain ⟨o,ho,hx,hd,hf⟩ := id hs
 unfold setNext setsByText
 refine wpAny_bind (wpAny_setState_of ho hd hf ?_)
 dsimp only
 refine wpAny_bind (wpAny_bind (wpAny_askSetting (wpAny_pure ?_)))
 refine wpAny_ite_split (fun _ => ?_) (fun z => absurd b z)
 refine wpAny_ite_split (fun z => absurd z (by simp)) (fun _ => ?_)
 unfold setWalk setsByText
 refine wpAny_bind (wpAny_bind (wpAny_setState_of ho hd hf ?_))
 dsimp only
 refine wpAny_bind (wpAny_bind (wpAny_askSetting (wpAny_pure ?_)))
 refine wpAny_ite_split (fun _ => ?_) (fun z => absurd b z)
 refine wpAny_bind (wpAny_askSetting (wpAny_pure (wpAny_pure ?_)))
 rw [List.getElem?_map,Array.getElem?_toList,Option.map_map] at q
 exact q
theorem JU (b:w.params.followText "set-order" = false) (l:t.led = true) (r:_Stb.Rise t.place) (pl:t.plain = true \/ es.size <= 1):Nx prog w a es ep t (es.toList.map (·.2)) (fun i => if i = 0 then 0 else t.place.getD (i - 1) 0 + 1) := by
 intro i s A E Q hs hi q
 obtain ⟨o,ho,hx,hd,hf⟩ := id hs
 have sz:t.place.size = es.size := by
   unfold SetTable.fits at hf
   rw [Bool.and_eq_true,beq_iff_eq] at hf
   exact hf.1
 have bl:SetTable.below t.place (if i = 0 then 0 else t.place.getD (i - 1) 0 + 1) = i := by
   by_cases e:i = 0
   · subst e
     rw [if_pos rfl]
     exact _Stb.X5 r
   · rw [if_neg e]
     have h1:i - 1 < t.place.size := by omega
     have e1:t.place[i - 1]? = some (t.place.getD (i - 1) 0) := by
       rw [Array.getElem?_eq_getElem h1,Array.getD,dif_pos h1]
       rfl
     have := _Stb.below_at r e1
     omega
 unfold setNext setsByText
 refine wpAny_bind (wpAny_setState_of ho hd hf ?_)
 dsimp only
 refine wpAny_bind (wpAny_bind (wpAny_askSetting (wpAny_pure ?_)))
 refine wpAny_ite_split (fun z => absurd (b.symm.trans z) (by decide)) (fun _ => ?_)
 refine wpAny_ite_split (fun z => ?_) (fun _ => ?_)
 · have z':(!t.plain && decide (es.size > 1)) = true := z
   rw [Bool.and_eq_true,decide_eq_true_eq,Bool.not_eq_true'] at z'
   rcases pl with h | h
   · rw [h] at z'; cases z'.1
   · exact absurd z'.2 (by omega)
 refine wpAny_bind ?_
 show wpAny _ _ (if (!t.led && !es.isEmpty) = true then unsupported "set:maker-not-led" else pure ()) _ _ s
 rw [l]
 refine wpAny_ite_split (fun z => absurd z (by simp)) (fun _ => wpAny_pure ?_)
 rw [bl]
 refine wpAny_pure ?_
 rw [List.getElem?_map,Array.getElem?_toList] at q
 by_cases h:i < es.size
 · have hp:i < t.place.size := by omega
   rw [Array.getElem?_eq_getElem h] at q ⊢
   rw [Array.getElem?_eq_getElem hp]
   dsimp only at q
   rw [if_neg (Nat.succ_ne_zero i)] at q
   have e2:t.place.getD (i + 1 - 1) 0 = t.place[i] := by
     rw [Nat.add_sub_cancel,Array.getD,dif_pos hp]
     rfl
   dsimp only [Option.map] at q
   rw [e2] at q
   exact q
 · rw [Array.getElem?_eq_none (by omega)] at q ⊢
   exact q
theorem Xk (hh:A.handled = none) (I:Addr) (hne:a ≠ I) {ord:List Value} {sl:Nat -> Nat} (hn:ord.length = es.size) (nx:Nx prog w a es ep t ord sl) :
   Walks prog w A I [I,a] [I] es.size (fun i v => ord[i]? = some v) (fun i h => yU h I (.int (sl i) 0) i a es.size ep /\ SAt a es ep t h) where
 sub := fun c hc' => by simp at hc'; simp [hc']
 frame := fun _ _ _ st hk => ⟨st.1.at_ fun o e => hk I (by simp) o e,st.2.keep fun o e => hk a (by simp) o e⟩
 item := fun i s1 Q E hi st hQ => by
   have e:ord[i]? = some (ord[i]'(by omega)) := List.getElem?_eq_getElem (by omega)
   refine Q6 (x := ord[i]'(by omega)) (j := sl (i + 1)) st.1 st.2 (fun {A E Q} q => nx i s1 A E Q st.2 (Nat.le_of_lt hi) (by rw [e]; exact q)) fun h' hit' hs' => ?_
   exact hQ _ h' s1.toks e ⟨hit',st.2.keep fun o e => (hs'.2 a hne).trans e⟩ fun b o hb e => hs'.extBut b o (fun z => hb (by simp [z])) e
 done := fun s1 Q E st hQ => by
   refine JQ hh st.1 st.2 (fun {A E Q} q => nx es.size s1 A E Q st.2 (Nat.le_refl _) (by rw [List.getElem?_eq_none (by omega)]; exact q)) fun h' he => ?_
   exact hQ h' s1.toks fun b o hb e => he b o (fun z => hb (by simp [z])) e
 self := fun _ _ _ _ sn hQ => YS sn.1 hQ
noncomputable def TAt (tp:Addr) (od:List Nat) (h:Heap):Prop := ∃ o c,h.get? tp = some o /\ o.data = .seq (od.map fun (i:Nat) => rawInt i).toArray c
theorem Xl (hh:A.handled = none) (I tp:Addr) (hne:a ≠ I) (hnt:tp ≠ I) {od:List Nat} (hp:od.Perm (List.range es.size)) :
   Walks prog w A I [I,a,tp] [I] es.size (fun i v => (od.filterMap fun j => es[j]?.map (·.2))[i]? = some v) (fun i h => yU h I (.ref tp) i a es.size ep /\ SAt a es ep t h /\ TAt tp od h) where
 sub := fun c hc' => by simp at hc'; simp [hc']
 frame := fun _ _ _ st hk => ⟨st.1.at_ fun o e => hk I (by simp) o e,st.2.1.keep fun o e => hk a (by simp) o e,let ⟨o,c,e,d⟩ := st.2.2; ⟨o,c,hk tp (by simp) o e,d⟩⟩
 item := fun i s1 Q E hi st hQ => by
   obtain ⟨otp,c,e1,e2⟩ := st.2.2
   have len:od.length = es.size := by rw [hp.length_eq,List.length_range]
   have hj:od[i]'(by omega) < es.size := List.mem_range.mp (hp.mem_iff.mp (List.getElem_mem (by omega)))
   have e3:(od.map fun (i:Nat) => rawInt i).toArray[i]? = some (.int (od[i]'(by omega):Nat) 0) := by
     rw [List.getElem?_toArray,List.getElem?_map,List.getElem?_eq_getElem (show i < od.length by omega)]
     rfl
   have e5:(od.filterMap fun j => es[j]?.map (·.2)) = od.map fun j => (es[j]?.map (·.2)).getD .none := by
     have:∀ l:List Nat,(∀ j ∈ l,j < es.size) -> (l.filterMap fun j => es[j]?.map (·.2)) = l.map fun j => (es[j]?.map (·.2)).getD .none := by
       intro l
       induction l with
       | nil => intro _; rfl
       | cons b l ih =>
         intro h
         have hb := h b List.mem_cons_self
         rw [List.filterMap_cons,List.map_cons,Array.getElem?_eq_getElem hb,ih fun j hj => h j (List.mem_cons_of_mem _ hj)]
         rfl
     exact this od fun j hj => List.mem_range.mp (hp.mem_iff.mp hj)
   refine Qg (hsh := (es[od[i]'(by omega)]'hj).1) (x := (es[od[i]'(by omega)]'hj).2) st.1 st.2.1 e1 e2 e3 (Array.getElem?_eq_getElem hj) fun h' hit' hs' => ?_
   refine hQ _ h' s1.toks ?_ ⟨hit',st.2.1.keep fun o e => (hs'.2 a hne).trans e,otp,c,(hs'.2 tp hnt).trans e1,e2⟩ fun b o hb e => hs'.extBut b o (fun z => hb (by simp [z])) e
   rw [e5,List.getElem?_map,List.getElem?_eq_getElem (show i < od.length by omega),Option.map_some,Array.getElem?_eq_getElem hj]
   rfl
 done := fun s1 Q E st hQ => by
   obtain ⟨otp,c,e1,e2⟩ := st.2.2
   have len:od.length = es.size := by rw [hp.length_eq,List.length_range]
   refine Q7 hh st.1 st.2.1 e1 e2 (by rw [List.getElem?_toArray,List.getElem?_eq_none (by rw [List.length_map]; omega)]) fun h' he => ?_
   exact hQ h' s1.toks fun b o hb e => he b o (fun z => hb (by simp [z])) e
 self := fun _ _ _ _ sn hQ => YS sn.1 hQ
end
end _L2
namespace _L2
open PySem PySem.Spec PyProof.Rows PySem.W
section
variable {prog:Program} {w:World} {A:Around} {E:Value -> Shared -> Prop} {s:Shared} {a:Addr} {ep:Nat} {es:Array (Int × Value)} {t:SetTable}
theorem SAt.type (h:SAt a es ep t s.heap):s.TypeIs (.ref a) "set" := let ⟨o,e,x,_⟩ := h; ⟨o,e,x.1⟩
theorem JV {od:List Nat} (hp:od.Perm (List.range es.size)):(od.filterMap fun j => es[j]?.map (·.2)).Perm (es.toList.map (·.2)) := by
 refine (hp.filterMap _).trans (List.Perm.of_eq ?_)
 refine List.ext_getElem? fun i => ?_
 have:((List.range es.size).filterMap fun j => es[j]?.map (·.2)) = (List.range es.size).map fun j => (es[j]?.map (·.2)).getD .none := by
   have:∀ l:List Nat,(∀ j ∈ l,j < es.size) -> (l.filterMap fun j => es[j]?.map (·.2)) = l.map fun j => (es[j]?.map (·.2)).getD .none := by
     intro l
     induction l with
     | nil => intro _; rfl
     | cons b l ih =>
       intro h
       rw [List.filterMap_cons,List.map_cons,Array.getElem?_eq_getElem (h b List.mem_cons_self),ih fun j hj => h j (List.mem_cons_of_mem _ hj)]
       rfl
   exact this _ fun j hj => List.mem_range.mp hj
 rw [this,List.getElem?_map,List.getElem?_map]
 have e := Array.getElem?_toList (xs := es) (i := i)
 rw [e]
 by_cases h:i < es.size
 · rw [List.getElem?_range h,Option.map_some,Array.getElem?_eq_getElem h]
   rfl
 · rw [List.getElem?_eq_none (l := List.range es.size) (by rw [List.length_range]; omega),Array.getElem?_eq_none (by omega)]
   rfl
theorem Q8:∀ (xs:Array Nat),xs.size <= 1 -> _Stb.Rise xs
 | ⟨[]⟩,_ => List.Pairwise.nil
 | ⟨[x]⟩,_ => List.pairwise_singleton _ _
 | ⟨_ :: _ :: l⟩,h => absurd h (by simp)
set_option maxHeartbeats 1000000 in
theorem Q9 {Q:Value -> Shared -> Prop} (hs:SAt a es ep t s.heap) (bd:es.size < scanBound) (tg:_Stb.Tg (!w.params.followText "set-order") t)
   (q:∀ (h1:Heap) d' (I:Addr) (fp:List Addr) (ord:List Value) (St:Nat -> Heap -> Prop),(∀ A:Around,A.handled = none -> Walks prog w A I fp [I] es.size (fun i v => ord[i]? = some v) St) -> St 0 h1 -> (∀ b o,s.heap.get? b = some o -> h1.get? b = some o) -> s.heap.objs.size <= I ->
     (∀ b ∈ fp,b = a \/ s.heap.objs.size <= b) -> ord.Perm (es.toList.map (·.2)) -> Q (.ref I) { s with heap := h1,drawn := d' }):wpAny (model prog w) A (pyIter (.ref a)) Q E s := by
 obtain ⟨o,ho,hx,hd,hf⟩ := id hs
 have ha:a < s.heap.objs.size := Heap.lt_size ho
 have sz:t.place.size = es.size := by
   unfold SetTable.fits at hf
   rw [Bool.and_eq_true,beq_iff_eq] at hf
   exact hf.1
 refine wpAny_pyIter_slot hs.type F.slot_set_iter (wpAny_call_entry F.slot_set_iter hs.type _SI.X8 ?_ (F.args_set_iter_1 _))
 unfold Builtin.«frozenset.__iter__» Builtin.Frozenset.slot0 Builtin.Frozenset.sizeOf setDrawn setsByText
 refine wpAny_bind (wpAny_bind (wpAny_pure (wpAny_pure ?_)))
 refine wpAny_bind (wpAny_bind (wpAny_setEntries_of ho hd hf (wpAny_pure ?_)))
 refine wpAny_bind (wpAny_bind (wpAny_setState_of ho hd hf ?_))
 dsimp only
 refine wpAny_bind (wpAny_bind (wpAny_askSetting (wpAny_pure (wpAny_pure ?_))))
 have slots:∀ (ord:List Value) (sl:Nat -> Nat),sl 0 = 0 -> ord.Perm (es.toList.map (·.2)) -> Nx prog w a es ep t ord sl ->
     wpAny (model prog w) A.in1 (do let n <- setEpoch a; ret (<- newFields "set_iterator" [rawInt 0,rawInt 0,.ref a,rawInt es.size,rawInt n])) (fun fin s' => ∃ v,fin = .done (.ret v) /\ ∃ T' r,s'.TypeIs v T' /\ typeLookup (.type T') "__next__" = pure (some r) /\ Q v s') E s := by
   intro ord sl h0 hp nx
   refine wpAny_bind (wpAny_setEpoch_of ho hd hf (wpAny_bind (wpAny_newObj_type (wpAny_pure ⟨_,rfl, "set_iterator",_,⟨_,Heap.get?_push_size _ rfl,rfl⟩,_SI.slot_next.lookup,?_⟩))))
   refine q _ s.drawn s.heap.objs.size [s.heap.objs.size,a] ord (fun i h => yU h s.heap.objs.size (.int (sl i) 0) i a es.size ep /\ SAt a es ep t h) (fun A' hA => Xk hA _ (Nat.ne_of_lt ha) (by rw [hp.length_eq,List.length_map,Array.length_toList]) nx) ⟨⟨_,Heap.get?_push_size _ rfl,rfl,?_⟩,hs.keep fun o e => Heap.get?_push_of_some _ e⟩ (fun b o e => Heap.get?_push_of_some _ e) (Nat.le_refl _) (fun b hb => ?_) hp
   · rw [h0]; rfl
   · rcases List.mem_cons.mp hb with rfl | hb
     · exact .inr (Nat.le_refl _)
     · exact .inl (List.mem_singleton.mp hb)
 cases hb:w.params.followText "set-order" with
 | true =>
   refine wpAny_ite_split (fun z => ?_) (fun _ => ?_)
   · have z':(!w.params.followText "set-order" && _) = true := z
     rw [hb] at z'
     cases z'
   · exact wpAny_bind (wpAny_pure (slots _ (fun _ => 0) rfl ((Qh _ _).map _) (JT hb)))
 | false =>
   have led:t.led = true := by rw [tg.led,hb]; rfl
   refine wpAny_ite_split (fun z => ?_) (fun z => ?_)
   · refine wpAny_bind (JS es.size (List.range es.size) s _ (by rw [List.length_range]; exact Nat.le_refl _) fun od d' hp => ?_)
     have hl:od.length = es.size := by rw [hp.length_eq,List.length_range]
     refine wpAny_bind (wpAny_newTuple ?_ ?sz1)
     case sz1 => rw [List.length_map,hl]; exact fits_of_scanBound bd
     have hs1:SAt a es ep t (s.heap.push { cls := .type "tuple",data := .seq (od.map fun (i:Nat) => rawInt i).toArray }) := hs.keep fun o e => Heap.get?_push_of_some _ e
     obtain ⟨o1,ho1,_,hd1,hf1⟩ := id hs1
     refine wpAny_bind (wpAny_setEpoch_of ho1 hd1 hf1 (wpAny_bind (wpAny_newObj_type (wpAny_pure ⟨_,rfl, "set_iterator",_,⟨_,Heap.get?_push_size _ rfl,rfl⟩,_SI.slot_next.lookup,?_⟩))))
     generalize hT:({ cls := .type "tuple",data := .seq (od.map fun (i:Nat) => rawInt i).toArray }:Obj) = T0
     have hJ:(s.heap.push T0).objs.size = s.heap.objs.size + 1 := Heap.size_push ..
     have eT:(s.heap.push T0).get? s.heap.objs.size = some T0 := Heap.get?_push_size _ (by rw [<- hT]; rfl)
     have hs2:SAt a es ep t (s.heap.push T0) := hs.keep fun o e => Heap.get?_push_of_some _ e
     refine q _ d' (s.heap.push T0).objs.size [(s.heap.push T0).objs.size,a,s.heap.objs.size] _ (fun i h => yU h (s.heap.push T0).objs.size (.ref s.heap.objs.size) i a es.size ep /\ SAt a es ep t h /\ TAt s.heap.objs.size od h)
       (fun A' hA => Xl hA _ _ (by rw [hJ]; exact Nat.ne_of_lt (Nat.lt_succ_of_lt ha)) (by rw [hJ]; exact Nat.ne_of_lt (Nat.lt_succ_self _)) hp) ⟨⟨_,Heap.get?_push_size _ rfl,rfl,rfl⟩,hs2.keep fun o e => Heap.get?_push_of_some _ e,T0,0,Heap.get?_push_of_some _ eT,by rw [<- hT]⟩ (fun b o e => Heap.get?_push_of_some _ (Heap.get?_push_of_some _ e)) (by rw [hJ]; exact Nat.le_succ _) (fun b hb => ?_) (JV hp)
     rcases List.mem_cons.mp hb with rfl | hb
     · exact .inr (by rw [hJ]; exact Nat.le_succ _)
     · rcases List.mem_cons.mp hb with rfl | hb
       · exact .inl rfl
       · exact .inr (by rw [List.mem_singleton.mp hb]; exact Nat.le_refl _)
   · have z':¬ (!w.params.followText "set-order" && (!t.plain && decide (es.size > 1))) = true := z
     rw [hb,Bool.not_false,Bool.true_and,Bool.and_eq_true,decide_eq_true_eq,Bool.not_eq_true'] at z'
     have pl:t.plain = true \/ es.size <= 1 := by
       cases h:t.plain with
       | true => exact .inl rfl
       | false => exact .inr (Nat.not_lt.mp fun h2 => z' ⟨h,h2⟩)
     have r:_Stb.Rise t.place := by
       rcases pl with h | h
       · exact tg.rise h
       · rw [<- sz] at h
         exact Q8 _ h
     exact wpAny_bind (wpAny_pure (slots _ (fun i => if i = 0 then 0 else t.place.getD (i - 1) 0 + 1) rfl (List.Perm.refl _) (JU hb led r pl)))
theorem Ja {Q:Bool -> Shared -> Prop} (hT:s.TypeIs (.ref a) "set") (h:Q false s):wpAny (model prog w) A (Builtin.List.listLengthHint (.ref a)) Q E s := by
 unfold Builtin.List.listLengthHint
 refine wpAny_bind (wpAny_specialOf hT _SI.JP ?_)
 generalize hid:("set.__len__" : String) = id0; wp_delta; rw [show splitId id0 = some ("set","__len__") from by subst hid; decide +kernel]; subst hid
 refine wpAny_bind (wpAny_isInstance (T := "set") (b := true) hT (by rw [isSubtype_type]; kernel_rfl) ?_)
 refine wpAny_ite_split (fun z => absurd z (by decide)) (fun _ => wpAny_ite_split (fun _ => ?_) (fun z => absurd (by decide +kernel) z))
 exact wpAny_bind (wpAny_typeOf hT (wpAny_pure h))
theorem X9 {R:Result -> Shared -> Prop} (hh:A.handled = none) (hs:SAt a es ep t s.heap) (bd:es.size < scanBound) (tg:_Stb.Tg (!w.params.followText "set-order") t) (S:Addr) (hSa:S ≠ a) (res:Value) (c0:Nat) (hS:s.heap.get? S = some { cls := .type "list",data := .seq #[] c0 })
   (hR:∀ (h':Heap) (tk:Nat) d' (vs:Array Value) (c':Nat),(∀ b o,b ≠ S -> s.heap.get? b = some o -> h'.get? b = some o) -> h'.get? S = some { cls := .type "list",dict := none,data := .seq vs c',slots := #[] } -> vs.toList.Perm (es.toList.map (·.2)) -> R (.ok (.ret res)) { s with heap := h',toks := tk,drawn := d' }) :
   wpAny (model prog w) A.in1 (Builtin.List.listExtendWith (.ref S) (.ref a) res)
     (fun fin s' => match fin with | .done f => R (.ok f) s' | .again c' => c'.quiet = true /\ codeAny (model prog w) A c' R s') (fun e s' => R (.error e) s') s := by
 unfold Builtin.List.listExtendWith
 refine wpAny_bind (wpAny_typeOf (T := "set") hs.type ?_)
 have h1:Builtin.List.listSameRef (.ref S) (.ref a) = false := by simp [Builtin.List.listSameRef,hSa]
 have h2:(Value.type "set" == Value.type "list") = false := by decide
 have h3:(Value.type "set" == Value.type "tuple") = false := by decide
 simp only [h1,h2,h3,Bool.or_false,Bool.false_eq_true,if_false]
 refine wpAny_bind (Q9 hs bd tg fun h1 d' I fp ord St W st kp hI hfp pm => ?_)
 have hS1 := kp _ _ hS
 have hSl:S < s.heap.objs.size := Heap.lt_size hS
 have hSf:S ∉ fp := fun z => (hfp S z).elim hSa fun z => absurd hSl (Nat.not_lt.mpr z)
 have key:∀ (h:Heap) (c1 tk:Nat),St 0 h -> (∀ b o,b ≠ S -> s.heap.get? b = some o -> h.get? b = some o) -> h.get? S = some { cls := .type "list",data := .seq #[] c1 } ->
     codeAny (model prog w) A (.builtin "list.extend.loop" ⟨[.ref S,.ref I,res],[]⟩) R { s with heap := h,toks := tk,drawn := d' } := by
   intro h c1 tk hst hk hS2
   refine codeAny_extend_loopS (W A.in1 hh).toS (fits_of_scanBound bd) S hSf res es.size 0 _ #[] c1 rfl (Nat.zero_le _) hst hS2 (ItemsOf.nil _) fun s' acc c' mv hS' hacc => ?_
   obtain ⟨h',g',d2,tk',os'⟩ := s'
   obtain rfl:g' = s.gens := mv.gens
   obtain rfl:d2 = d' := mv.drawn
   obtain rfl:os' = s.os := mv.os
   refine hR h' tk' _ acc c' (fun b o hb e => mv.heap b o (fun z => ?_) (hk b o hb e)) hS' ?_
   · rcases List.mem_cons.mp z with z | z
     · exact hb z
     · rw [List.mem_singleton.mp z] at e
       exact absurd (Heap.lt_size e) (Nat.not_lt.mpr hI)
   · refine (List.Perm.of_eq (List.ext_getElem? fun i => ?_)).trans pm
     have ol:ord.length = es.size := by rw [pm.length_eq,List.length_map,Array.length_toList]
     rw [Array.getElem?_toList]
     cases e:acc[i]? with
     | none =>
       have := Array.getElem?_eq_none_iff.mp e
       have := hacc.1
       rw [List.getElem?_eq_none (by omega)]
     | some v => exact (hacc.2 i v e).symm
 refine wpAny_bind (wpAny_holding (Ja (hs.keep fun o e => kp _ _ e).type ?_))
 refine wpAny_ite_split (fun _ => ?_) (fun _ => wpAny_pure ⟨plainId_quiet PySem.F.plain_extend_loop _,key _ c0 _ st (fun b o _ e => kp _ _ e) hS1⟩)
 refine wpAny_bind (wpAny_rule (wpAny_bind ?_))
 show wpAny _ _ (updateSeq S (·.push .none) >>= fun _ => updateSeq S (·.pop)) _ _ _; refine wpAny_bind (wpAny_updateSeq hS1 rfl ?_)
 have hS2 := Heap.get?_update_self (Obj.mapSeq (·.push Value.none)) hS1 rfl; refine wpAny_updateSeq (hz := by seq_fits) hS2 rfl ?_
 have hS3 := Heap.get?_update_self (Obj.mapSeq (·.pop)) hS2 rfl; refine wpAny_pure ⟨plainId_quiet PySem.F.plain_extend_loop _,key _ _ _ ?_ (fun b o hb e => ?_) hS3⟩
 · refine (W A.in1 hh).frame 0 _ _ st fun b hb o e => ?_
   have ne:b ≠ S := fun h => hSf (h ▸ hb)
   exact (Heap.get?_update_other _ _ ne.symm).trans ((Heap.get?_update_other _ _ ne.symm).trans e)
 · exact (Heap.get?_update_other _ _ hb.symm).trans ((Heap.get?_update_other _ _ hb.symm).trans (kp _ _ e))
theorem Xm {R:List Value -> Shared -> Prop} (hh:A.handled = none) (hs:SAt a es ep t s.heap) (bd:es.size < scanBound) (tg:_Stb.Tg (!w.params.followText "set-order") t)
   (q:∀ (h':Heap) (tk:Nat) d' (vs:List Value),(∀ b o,s.heap.get? b = some o -> h'.get? b = some o) -> vs.Perm (es.toList.map (·.2)) -> R vs { s with heap := h',toks := tk,drawn := d' }):wpAny (model prog w) A (collect (.ref a)) R E s := by
 have ha:a < s.heap.objs.size := let ⟨_,e,_⟩ := hs; Heap.lt_size e
 unfold collect
 refine wpAny_bind (wpAny_runValue (codeAny_builtin entry_proto_collect' ?_)); rw [Around.under_plainId PySem.F.plain_proto_collect _]
 show wpAny _ A.in1 (newList [] >>= fun l => again (.builtin "list.__iadd__" ⟨[l,.ref a],[]⟩)) _ _ s; refine wpAny_bind (wpAny_newObj_type ?_)
 refine wpAny_pure ⟨plainId_quiet PySem.F.plain_list_iadd _,codeAny_builtin entry_list_iadd' ?_⟩; rw [Around.under_plainId PySem.F.plain_list_iadd _]
 have hS1:(s.heap.push { cls := .type "list",data := .seq ([]:List Value).toArray }).get? s.heap.objs.size = some { cls := .type "list",data := .seq #[] 0 } := Heap.get?_push_size _ rfl
 show wpAny _ A.in1 (Builtin.List.listExtendWith (.ref s.heap.objs.size) (.ref a) (.ref s.heap.objs.size)) _ _ _
 have key := X9 (prog := prog) (A := A) (s := { s with heap := s.heap.push { cls := .type "list",data := .seq ([]:List Value).toArray } })
   (R := fun (x:Result) (s':Shared) => ∃ (h':Heap) (tk:Nat) (d':Drawn) (vs:Array Value) (c':Nat),x = .ok (.ret (.ref s.heap.objs.size)) /\ s' = { s with heap := h',toks := tk,drawn := d' } /\ (∀ b o,s.heap.get? b = some o -> h'.get? b = some o) /\ h'.get? s.heap.objs.size = some { cls := .type "list",dict := none,data := .seq vs c',slots := #[] } /\ vs.toList.Perm (es.toList.map (·.2)))
   hh (hs.keep fun o e => Heap.get?_push_of_some _ e) bd tg s.heap.objs.size (Nat.ne_of_gt ha) (.ref s.heap.objs.size) 0 hS1 (fun h' tk d' vs c' hk hS' pm => ⟨h',tk,d',vs,c',rfl,rfl,fun b o e => hk b o (Nat.ne_of_lt (Heap.lt_size e)) (Heap.get?_push_of_some _ e),hS',pm⟩)
 refine wpAny_mono key (fun fin s' x => ?_) fun e s' x => ?_
 · cases fin with
   | done f =>
     obtain ⟨h',tk,d',vs,c',e,rfl,hk,hS',pm⟩ := x
     cases e
     exact wpAny_bind (wpAny_load hS' (wpAny_pure (q h' tk d' _ hk pm)))
   | again c1 =>
     refine ⟨x.1,codeAny_mono x.2 fun q1 s2 y => ?_⟩
     obtain ⟨h',tk,d',vs,c',rfl,rfl,hk,hS',pm⟩ := y
     exact wpAny_bind (wpAny_load hS' (wpAny_pure (q h' tk d' _ hk pm)))
 · obtain ⟨_,_,_,_,_,e',_⟩ := x
   cases e'
end
end _L2
namespace PySem
open AutoSeq1
end PySem
namespace _L2
open PySem PySem.Spec PyProof.Rows
end _L2
namespace _L2
open PySem PySem.Spec PyProof.Rows PySem.W
theorem Inv.drew {X:Cx} {pins:List (Addr × Obj)} {σ:St} {H:Hp} {s:Shared} {d':Drawn} (I:Inv X pins σ H s):Inv X pins σ H { s with drawn := d' } := ⟨I.ok,I.os,I.bare,I.base,I.loc,I.cell,I.free,I.freeC,I.pin,I.hok,I.len⟩
end _L2
namespace _L2
open PySem PySem.Spec PyProof.Rows PySem.W
section
variable {prog:Program} {w:World} {K:Type} [DecidableEq K] {knd:PySem.KeyKind prog w K} {A:Around} {R:Result -> Shared -> Prop} {I:Addr} {fp wr:List Addr} {G:Array GenState -> Array GenState -> Prop} {n:Nat} {P:Nat -> Value -> Prop} {St:Nat -> Shared -> Prop}
theorem Wa (W:WalksS prog w A.in1 I fp wr G n P St) (a:Addr) (na:a ∉ fp) (val:Nat -> K) (hval:∀ i v,P i v -> knd.is (val i) v = true /\ v.scannable = true) (hb:∀ i,i <= n -> (dd ((List.range i).map val)).length + 1 < scanBound) :
   ∀ (k i:Nat) (s:Shared),n - i = k -> i <= n -> St i s -> SetG knd s.heap a (fun k' => decide (k' ∈ dd ((List.range i).map val))) (dd ((List.range i).map val)).length ->
     (∀ s',Moved (a :: wr) G s s' -> SetG knd s'.heap a (fun k' => decide (k' ∈ dd ((List.range n).map val))) (dd ((List.range n).map val)).length -> R (.ok (.ret .none)) s') ->
     codeAny (model prog w) A (.builtin "set.update.loop" ⟨[.ref a,.ref I],[]⟩) R s := by
 have nw:a ∉ wr := fun h => na (W.sub _ h)
 have sub:∀ b ∈ wr,b ∈ a :: wr := fun b h => List.mem_cons_of_mem _ h
 intro k
 induction k with
 | zero =>
   intro i s e le st g fin
   obtain rfl:i = n := by omega
   refine codeAny_builtin F.entry_set_update_loop ?_; rw [Around.under_plainId F.plain_set_update_loop _]
   show wpAny _ A.in1 (pyNext (.ref I) >>= _) _ _ s; refine wpAny_bind (W.done s _ _ st fun s' mv => ?_)
   exact wpAny_pure (fin s' (mv.mono sub) (g.keep fun o e => mv.heap a o nw e))
 | succ k ih =>
   intro i s e le st g fin
   have lt:i < n := by omega
   refine codeAny_builtin F.entry_set_update_loop ?_; rw [Around.under_plainId F.plain_set_update_loop _]
   show wpAny _ A.in1 (pyNext (.ref I) >>= _) _ _ s; refine wpAny_bind (W.item i s _ _ lt st fun v s1 pv st1 mv => ?_)
   obtain ⟨hk,sc⟩ := hval i v pv
   have g1 := g.keep (h' := s1.heap) fun o e => mv.heap a o nw e
   show wpAny _ A.in1 (holding [v] (setAdd a v) >>= _) _ _ s1; refine wpAny_bind (wpAny_holding ?_)
   unfold setAdd
   refine wpAny_holding (wpAny_bind (knd.pyHash hk ?_))
   refine Q4 (s := { s1 with toks := s1.toks + 1 }) hk sc g1 (hb i (by omega)) fun h' sb g2 => ?_
   refine wpAny_pure ⟨plainId_quiet F.plain_set_update_loop _,ih (i + 1) _ (by omega) lt (W.frame _ s1 _ _ st1 (Nat.le_succ _) fun b hb o e => ?_) (Qf g2) fun s2 mv2 g3 => ?_⟩
   · rw [sb.2 b fun z:b = a => na (z ▸ hb)]; exact e
   · refine fin s2 (Moved.trans W.gtrans ((mv.mono sub).then_heap (Nat.le_succ _) fun b o hb e => ?_) mv2) g3
     rw [sb.2 b fun z:b = a => hb (z ▸ List.mem_cons_self)]; exact e
end
section
variable {prog:Program} {w:World} {K:Type} [DecidableEq K] {knd:PySem.KeyKind prog w K} {A:Around} {E:Value -> Shared -> Prop} {s:Shared}
set_option maxHeartbeats 3200000 in
theorem Wb {x:Str} {tx:Tok} {val:Nat -> K} {Q:Value -> Shared -> Prop} (hh:A.handled = none) (hi:∀ i v,SignAt x i v -> knd.is (val i) v = true /\ v.scannable = true) (hb:∀ i,i <= x.cps.size -> (dd ((List.range i).map val)).length + 1 < scanBound)
   (q:∀ (h':Heap) (tk:Nat),SetG knd h' s.heap.objs.size (fun k => decide (k ∈ dd ((List.range x.cps.size).map val))) (dd ((List.range x.cps.size).map val)).length -> (∀ b o,s.heap.get? b = some o -> h'.get? b = some o) -> Q (.ref s.heap.objs.size) { s with heap := h',toks := tk }) :
   wpAny (model prog w) A (call (.type "set") [.str x tx]) Q E s := by
 obtain ⟨c,tl,hmro⟩ := F.called_set.mro; have hmade := F.called_set.made; have hsub := F.called_set.sub
 refine wpAny_call (codeAny_of_tree ?_); show wpAny _ _ (callAny (.type "set") _) _ _ _
 refine wpAny_pure ⟨Code.quiet_builtin _ (by decide +kernel),codeAny_builtin F.entry_type_call ?_⟩; rw [Around.under_plain (weight_type_call_type "set" [.str x tx] []) rfl]
 have h1 := F.called_set.notType; have h2 := F.called_set.canCreate; have hct := F.typeCall_set_1 (.str x tx); repeat (any_goals (first | assumption | wp_step))
 refine codeAny_mono (Q5 (.str x tx) (E := E) (Q1 := fun obj s1 => obj = .ref s.heap.objs.size /\ s1 = { s with heap := s.heap.push (setO (!w.params.followText "set-order")) }) ⟨rfl,rfl⟩) fun r s1 hr => ?_
 generalize hob:(!w.params.followText "set-order") = led at hr
 match r,hr with
 | .error e,hr => exact hr
 | .ok (.ret obj),hr =>
   obtain ⟨rfl,rfl⟩ := hr
   have hS:(s.heap.push { cls := .type "set",dict := none,data := .set #[] 0 (.fresh 0 0 led) }).get? s.heap.objs.size  = some { cls := .type "set",dict := none,data := .set #[] 0 (.fresh 0 0 led) } := Heap.get?_push_size _ rfl
   have hT:Shared.TypeIs { s with heap := s.heap.push { cls := .type "set",dict := none,data := .set #[] 0 (.fresh 0 0 led) } } (.ref s.heap.objs.size) "set" := ⟨_,hS,rfl⟩
   have hli := F.called_set.init.lookup; have hbi := F.called_set.init.bind (.ref s.heap.objs.size); repeat (any_goals (first | assumption | wp_step))
   refine codeAny_mono (codeAny_call_builtin (R := wants (fun r s2 => r = .none /\ ∃ h' tk,s2 = { s with heap := h',toks := tk } /\ SetG knd h' s.heap.objs.size (fun k => decide (k ∈ dd ((List.range x.cps.size).map val))) (dd ((List.range x.cps.size).map val)).length /\
       (∀ b o,s.heap.get? b = some o -> h'.get? b = some o)) E) F.called_set.init.plain F.entry_set_init (check_set_init_1 hT ?_)) fun r2 s2 hr2 => ?_
   · have e1 := F.sub_str_set; have e2 := F.sub_str_frozenset; have e3:(Value.type "str" == Value.type "dict") = false := by decide
     unfold Builtin.«set.__init__» noKeywords Builtin.Frozenset.updateFrom; generalize hPI:pyIter = PI; wp_walk; subst hPI
     refine wpAny_pyIter_str fun ob St W st => ?_
     refine wpAny_bind (wpAny_runValue ?_)
     have hh3:A.in1.in1.in1.handled = none := by simp [hh]
     have nf:s.heap.objs.size ∉ [(s.heap.push { cls := .type "set",dict := none,data := .set #[] 0 (.fresh 0 0 led) }).objs.size] := by
       rw [Heap.size_push]; intro z
       exact absurd (List.mem_singleton.mp z) (Nat.ne_of_lt (Nat.lt_succ_self _))
     refine Wa ((W _ hh3).toS) s.heap.objs.size nf val hi hb (x.cps.size - 0) 0 _ (by omega) (Nat.zero_le _) st ?hS0 ?hR
     case hS0 =>
       refine (X7 (knd := knd) (a := s.heap.objs.size) ?_).congr (fun _ => rfl) rfl
       rw [hob]
       exact Heap.get?_push_of_some _ hS
     case hR =>
       intro s' mv g
       obtain ⟨h',g',d',tk',os'⟩ := s'
       obtain rfl:g' = s.gens := mv.gens
       obtain rfl:d' = s.drawn := mv.drawn
       obtain rfl:os' = s.os := mv.os
       refine wpAny_pure (wpAny_pure ⟨rfl,h',tk',rfl,g,fun b o e => ?_⟩)
       have hb:b < s.heap.objs.size := Heap.lt_size e
       refine mv.heap b o (fun z => ?_) (Heap.get?_push_of_some _ (Heap.get?_push_of_some _ e))
       rcases List.mem_cons.mp z with z | z
       · exact absurd z (Nat.ne_of_lt hb)
       · exact absurd (List.mem_singleton.mp z) (by rw [Heap.size_push]; exact Nat.ne_of_lt (Nat.lt_succ_of_lt hb))
   · cases r2 with
     | error e => exact hr2
     | ok fl =>
     cases fl with
     | ret r =>
       obtain ⟨rfl,h',tk,rfl,g,kp⟩ := hr2
       dsimp only
       (repeat (any_goals (first | assumption | wp_step))); exact q _ _ g kp
     | _ => exact hr2.elim
end
theorem Wc {α β:Type} [DecidableEq α] [DecidableEq β] (f:α -> β) (inj:∀ a b,f a = f b -> a = b) (l:List α):dd (l.map f) = (dd l).map f := by
 refine snoc_ind (P := fun l => dd (l.map f) = (dd l).map f) rfl (fun l k ih => ?_) l
 rw [List.map_append,List.map_singleton,qb,qb,ih]
 by_cases h:k ∈ dd l
 · rw [if_pos h,if_pos (List.mem_map.mpr ⟨k,h,rfl⟩)]
 · rw [if_neg h,if_neg fun z => by
     obtain ⟨a,ha,e⟩ := List.mem_map.mp z
     exact h (inj _ _ e ▸ ha),List.map_append]
   rfl
theorem Qi {α:Type} [DecidableEq α] {l m:List α} (h:∀ k ∈ l,k ∈ m):(dd l).length <= (dd m).length := by
 obtain ⟨a1,a2,_⟩ := xH l
 obtain ⟨b1,b2,_⟩ := xH m
 have key:∀ (a b:List α),a.Nodup -> (∀ k ∈ a,k ∈ b) -> a.length <= b.length := by
   intro a
   induction a with
   | nil => intro b _ _; exact Nat.zero_le _
   | cons x a ih =>
     intro b nd sub
     obtain ⟨n1,n2⟩ := List.nodup_cons.mp nd
     have hx := sub x List.mem_cons_self
     have := ih (b.erase x) n2 fun k hk => (List.mem_erase_of_ne (fun e:k = x => n1 (e ▸ hk))).mpr (sub k (List.mem_cons_of_mem _ hk))
     rw [List.length_erase_of_mem hx] at this
     have := List.length_pos_of_mem hx
     rw [List.length_cons]
     omega
 exact key _ _ a1 fun k hk => (b2 k).mpr (h k ((a2 k).mp hk))
theorem Wd {prog:Program} {w:World} {es:Array (Int × Value)} {σ:List Str} (nd:σ.Nodup) (el:ElemsOf (PySem.strKind prog w) es.toList) (me:∀ k,decide (k ∈ σ) = true ↔ ∃ e ∈ es.toList,(PySem.strKind prog w).is k e.2 = true) (en:es.size = σ.length) :
   ∃ ks:List Str,StrsAre (es.toList.map (·.2)) ks /\ ks.Perm σ := by
 have all:∀ l:List (Int × Value),ElemsOf (PySem.strKind prog w) l -> ∃ ks:List Str,StrsAre (l.map (·.2)) ks /\ ks.length = l.length /\ ∀ k,(∃ e ∈ l,(PySem.strKind prog w).is k e.2 = true) -> k ∈ ks := by
   intro l
   induction l with
   | nil => intro _; exact ⟨[],.nil,rfl,fun k ⟨e,he,_⟩ => nomatch he⟩
   | cons e l ih =>
     intro h
     obtain ⟨ks,i1,i0,i2⟩ := ih h.tail
     obtain ⟨⟨k,hk,_⟩,_⟩ := h.head
     obtain ⟨t,hv⟩ := Value.isStrOf_shape hk
     refine ⟨k :: ks,by rw [List.map_cons,hv]; exact .cons k t i1,by rw [List.length_cons,List.length_cons,i0],fun k' h9 => ?_⟩
     obtain ⟨e',he',hk'⟩ := h9
     rcases List.mem_cons.mp he' with rfl | he'
     · rw [(PySem.strKind prog w).inj e'.2 k' k hk' hk]
       exact List.mem_cons_self
     · exact List.mem_cons_of_mem _ (i2 k' ⟨e',he',hk'⟩)
 obtain ⟨ks,i1,i0,i2⟩ := all _ el
 refine ⟨ks,i1,jw σ ks nd (fun k hk => i2 k ((me k).mp (decide_eq_true hk))) ?_⟩
 exact i0.trans (by rw [Array.length_toList]; exact en)
theorem Qj {vs us:List Value} (p:vs.Perm us):∀ {ks:List Str},StrsAre us ks -> ∃ ks',StrsAre vs ks' /\ ks'.Perm ks := by
 induction p with
 | nil => intro ks h; exact ⟨ks,h,List.Perm.refl _⟩
 | cons x p ih =>
   intro ks h
   cases h with
   | cons n t r =>
     obtain ⟨ks',a,b⟩ := ih r
     exact ⟨n :: ks',.cons n t a,b.cons n⟩
 | swap x y l =>
   intro ks h
   cases h with
   | cons n t r =>
     cases r with
     | cons n2 t2 r2 => exact ⟨n2 :: n :: _,.cons n2 t2 (.cons n t r2),List.Perm.swap _ _ _⟩
 | trans p1 p2 i1 i2 =>
   intro ks h
   obtain ⟨k1,a1,b1⟩ := i2 h
   obtain ⟨k2,a2,b2⟩ := i1 a1
   exact ⟨k2,a2,b2.trans b1⟩
theorem j4:∀ {zs:List Str} {us:List Value},StrsAre us zs -> Vals (zs.map V.str) us
 | _,_,.nil => .nil
 | _,_,.cons z t r => .cons ⟨t,rfl⟩ (j4 r)
theorem YT:∀ {vs:List Value} {ks:List Str},StrsAre vs ks -> vs.length = ks.length
 | _,_,.nil => rfl
 | _,_,.cons _ _ r => by rw [List.length_cons,List.length_cons,YT r]
noncomputable def sgn (c:Nat):Str := txt [c]
theorem JW (a b:Nat) (h:sgn a = sgn b):a = b := by
 have := Zo h
 injection this
noncomputable def Qk (tl:TE):TE := fun σ H Q => tl σ H fun x H1 => ∃ (l:List Nat),x = .str (txt l) /\ (dd l).length < 64 /\
 ∀ (D:Addr) (ms:List Nat),H1 D = none -> ms.Perm (dd l) -> Q (.ref D) (upd H1 D (.lst (ms.map fun c => V.str (sgn c))))
theorem jx {X:Cx} {l:Expr} {tl:TE} {p pos p2 pos2:Pos} (hg:Gl X "sorted") (hm:X.mg "sorted" = none) (hg2:Gl X "set") (hm2:X.mg "set" = none) (hc:X.calm = true) (hl:PE X l tl) (hs:starEach [l] X.env = [(false,eval l X.env)] := by rfl) :
   PE X (.Call (.Name "sorted" p) [.Call (.Name "set" p2) [l] [] pos2] [] pos) (Qk tl) := by
 intro pins s σ H Q I h
 refine wpAny_Call_Name_kw (xg I hg hm boot_sorted ?_ (by decide) (by decide))
 refine PyProof.Rows.callWith_builtin1 (Calls.spliced_cons ?_) rfl rfl
 refine wpAny_Call_Name_kw (xg I hg2 hm2 PyProof.Rows.boot_set ?_ (by decide) (by decide))
 refine PyProof.Rows.callWith_type1 (thn ((za hl zb hs) pos2 pins s σ H (fun vs H1 => match vs with
   | [x] => ∃ (l:List Nat),x = .str (txt l) /\ (dd l).length < 64 /\ ∀ (D:Addr) (ms:List Nat),H1 D = none -> ms.Perm (dd l) -> Q (.ref D) (upd H1 D (.lst (ms.map fun c => V.str (sgn c))))
   | _ => False) I h) fun us s1 ⟨vs,H1,I1,r1,q1⟩ => ?_) (by rw [hs]; rfl) (by rfl)
 match vs,q1 with
 | [x],q1 =>
 obtain ⟨u,rfl,ru⟩ := vals1 r1
 obtain ⟨ns,rfl,h64,q⟩ := q1
 obtain ⟨tx,rfl⟩ := ru
 have hh:X.A.handled = none := I1.ok.hd hc
 have esz:(txt ns).cps.size = ns.length := by simp [txt]
 have emapN:(List.range ns.length).map (fun i => ns.getD i 0) = ns := by
   refine List.ext_getElem? fun i => ?_
   rw [List.getElem?_map]
   by_cases hi:i < ns.length
   · rw [List.getElem?_range hi,List.getElem?_eq_getElem hi,Option.map_some,List.getD_eq_getElem?_getD,List.getElem?_eq_getElem hi]
     rfl
   · rw [List.getElem?_eq_none (l := List.range ns.length) (by rw [List.length_range]; omega),List.getElem?_eq_none (by omega)]
     rfl
 have emap:(List.range (txt ns).cps.size).map (fun i => sgn (ns.getD i 0)) = ns.map sgn := by
   rw [esz]
   conv => rhs; rw [<- emapN]
   rw [List.map_map]
   rfl
 have b64:(64:Nat) + 1 < scanBound := by decide
 have eD:dd (ns.map sgn) = (dd ns).map sgn := Wc sgn JW ns
 refine Wb (knd := PySem.strKind X.prog X.w) (val := fun i => sgn (ns.getD i 0)) hh (fun i v hv => ?_) (fun i hi => ?_) fun h' tk g kp => Calls.spliced_nil ?_
 · obtain ⟨c,u,e,rfl⟩ := hv
   have e:ns[i]? = some c := by simpa [txt] using e
   have:ns.getD i 0 = c := by rw [List.getD_eq_getElem?_getD,e]; rfl
   rw [this]
   exact ⟨by simp [PySem.strKind,Value.isStrOf,sgn,txt],rfl⟩
 · rw [esz] at hi
   have:(dd ((List.range i).map fun i => sgn (ns.getD i 0))).length <= (dd (ns.map sgn)).length := Qi fun k hk => by
     obtain ⟨j,hj,rfl⟩ := List.mem_map.mp hk
     have hj:j < ns.length := Nat.lt_of_lt_of_le (List.mem_range.mp hj) hi
     refine List.mem_map.mpr ⟨_,?_,rfl⟩
     rw [List.getD_eq_getElem?_getD,List.getElem?_eq_getElem hj]
     exact List.getElem_mem hj
   rw [eD,List.length_map] at this
   omega
 rw [emap] at g
 obtain ⟨o,es,ep,t,ho,hx,hd,el,me,bd,ft,en,tg⟩ := g
 obtain ⟨dnd,dmem,dlen⟩ := xH (ns.map sgn)
 obtain ⟨ks,hks,pks⟩ := Wd dnd el me en
 have I2:Inv X pins σ H1 { s1 with heap := h',toks := tk } := I1.kept kp
 refine Calls.call_function_entry kind_sorted plain_sorted entry_sorted (args_sorted1 _) ?_; unfold Builtin.«sorted»
 refine wpAny_bind (m := checkCount "sorted" 1 1 _) (wpAny_pure (wpAny_bind (Xm (by simp [hh]) ⟨o,ho,hx,hd,ft⟩ bd tg fun h2 tk2 d2 vs2 kp2 pm => ?_)))
 have I3:Inv X pins σ H1 { s1 with heap := h2,toks := tk2,drawn := d2 } := (I2.kept (h' := h2) (t' := tk2) kp2).drew
 obtain ⟨k2,hk2,pk2⟩ := Qj pm hks
 have l2:vs2.length = (dd ns).length := by rw [YT hk2,pk2.length_eq,pks.length_eq,eD,List.length_map]
 have hsm:vs2.length <= sizeLine := Nat.le_trans (show vs2.length <= 64 by omega) (by decide)
 refine wpAny_bind (wpAny_newList ?_ hsm)
 have hoL:(h2.push (seqObj "list" vs2.toArray 0)).get? h2.objs.size = some (seqObj "list" vs2.toArray 0) := Heap.get?_push_size _ rfl
 show wpAny _ _ _ _ _ { s1 with heap := h2.push (seqObj "list" vs2.toArray 0),toks := tk2,drawn := d2 }
 refine wpAny_bind (wpAny_holding (wpAny_call_entry slot_list_sort ⟨_,hoL,rfl⟩ entry_list_sort (list_sort_treeK strKind_oneLt hoL hk2.keysOf (fun v₁ v₂ rest e => keyKind_strs (by rw [<- e]; exact hk2)) (by omega) fun st' hp hs => ⟨_,rfl,?_⟩) (args_list_sort _)))
 refine wpAny_pure ⟨_,rfl,?_⟩
 obtain ⟨ss',a1,a2,_⟩ := sorted_out_str hk2 hp hs
 generalize (arrOf st').map (·.2) = out at a1
 obtain ⟨e,he⟩ := sortedHeap_at (out := out) hoL
 have pms:ss'.Perm ((dd ns).map sgn) := by
   rw [<- eD]
   exact a2.trans (pk2.trans pks)
 obtain ⟨ms,hms,ems⟩ : ∃ ms:List Nat,ms.Perm (dd ns) /\ ms.map sgn = ss' := by
   have gs:∀ c,(sgn c).cps.toList.headD 0 = c := fun c => rfl
   refine ⟨ss'.map fun x => x.cps.toList.headD 0,?_,?_⟩
   · have := pms.map fun x:Str => x.cps.toList.headD 0
     rw [List.map_map] at this
     refine this.trans (List.Perm.of_eq ?_)
     conv => rhs; rw [<- List.map_id (dd ns)]
     exact List.map_congr_left fun c _ => gs c
   · rw [List.map_map]
     conv => rhs; rw [<- List.map_id ss']
     refine List.map_congr_left fun x hx => ?_
     obtain ⟨c,_,rfl⟩ := List.mem_map.mp (pms.mem_iff.mp hx)
     show sgn ((sgn c).cps.toList.headD 0) = sgn c
     rw [gs]
 have nD:H1 h2.objs.size = none := I3.hok.fresh (Nat.le_refl _)
 have em2:(ms.map fun c => V.str (sgn c)) = ss'.map V.str := by rw [<- ems,List.map_map]; rfl
 have ln:(ms.map fun c => V.str (sgn c)).length <= sizeLine := by rw [List.length_map,hms.length_eq,<- l2]; exact hsm
 refine ⟨.ref h2.objs.size,_,I3.laid (t' := tk2) (o := .lst (ms.map fun c => V.str (sgn c))) (h' := sortedHeap (h2.push (seqObj "list" vs2.toArray 0)) h2.objs.size vs2 out) (fun b u eb => ?_) (Nat.le_refl _) ⟨ln,out.toList,e,by rw [em2]; exact j4 a1,?_⟩,rfl,q _ ms nD hms⟩
 · have lt:b < h2.objs.size := Heap.lt_size eb
   rw [sortedHeap_old (Nat.ne_of_lt lt) (by rw [Heap.size_push]; exact Nat.lt_succ_of_lt lt)]
   exact Heap.get?_push_of_some _ eb
 · rw [he]
end _L2
namespace _K4
open PySem _L2 _Til _Pic
noncomputable def yf (rows:List (List Nat)):Prop := xf rows = true /\ Page ((rows.getD 0 []).length:Nat) (rows.length:Nat) ((dd rows.flatten).map (bxOf rows))
theorem jp:∀ {rows:List (List Nat)} {M:Nat},(∀ r ∈ rows,r.length <= M) -> (rows.map List.length).sum <= rows.length * M
 | [],_,_ => Nat.zero_le _
 | r :: rs,M,h => by
   have a := jp (rows := rs) fun r hr => h r (List.mem_cons_of_mem _ hr)
   have b := h r List.mem_cons_self
   rw [List.map_cons,List.sum_cons,List.length_cons,Nat.add_mul]
   omega
theorem qt {H:Hp}:∀ {us:List V} {bs:List Bx} {v:V} {b:Bx},zm H us bs -> yR H v b -> zm H (us ++ [v]) (bs ++ [b])
 | _,_,_,_,.nil,h => .cons h .nil
 | _,_,_,_,.cons k r,h => .cons k (qt r h)
theorem Ql {H:Hp}:∀ {us:List V} {bs:List Bx},zm H us bs -> qo H us (bs.map some)
 | _,_,.nil => .nil
 | _,_,.cons h r => .cons (.box h) (Ql r)
theorem some_inj {α:Type}:∀ {as bs:List α},as.map some = bs.map some -> as = bs
 | [],[],_ => rfl
 | [],_ :: _,h => by cases h
 | _ :: _,[],h => by cases h
 | a :: as,b :: bs,h => by
   injection h with h1 h2
   cases h1
   rw [some_inj h2]
noncomputable def j5 (C:Addr):Sp := fun vs H Q E => ∃ (a:Addr) (rows:List (List Nat)),vs = [.ref a] /\ H a = some (.lst (txs rows)) /\ rows.length <= 1000 /\ (∀ r ∈ rows,r.length <= 1000) /\ (dd rows.flatten).length < 64 /\
 (yf rows -> ∀ (pg:Addr) (cs:List Bx) (H':Hp),Same H H' -> xY H' pg ((rows.getD 0 []).length:Nat) (rows.length:Nat) cs -> cs.Perm ((dd rows.flatten).map (bxOf rows)) -> cs.Pairwise TL -> Q (.ref pg) H') /\
 (¬ yf rows -> ∀ H',Same H H' -> E (.ref C) none H')
section
variable {P:Program} {w:World} {K:PySem.W.Frag} {mg:Str -> Option Value} {base:Heap}
theorem Qm:zC ["rows","boxes"] ["rows"] (zl jg) := ⟨rfl,rfl,rfl,by decide +kernel,rfl,by decide +kernel,by decide +kernel⟩
theorem JX {f fE fR fM C CN:Addr} {fd fdE fdR fdM:FuncData} (F:Fun K "read_picture" "read_picture" jg f fd) (ts:mg "sorted" = none) (tset:mg "set" = none) (tl:mg "len" = none) (exP:Exc K mg "NoPicture" C) (exN:Exc K mg "NoPage" CN) (cN:yQ K CN) (mN:PySem.W.mroIn K CN (.ref CN) = some true)
   (Ev:Callee P w K mg base CX0 1 "are_even_texts" fE fdE ["rows"] YN) (Ro:Callee P w K mg base CX0 1 "box_round" fR fdR ["rows","sign"] Zs) (Mk:Callee P w K mg base (CXS P w) 4 "make_page" fM fdM ["wide","high","boxes"] (YD CN)) :
   FnOk P w K mg base (CXE P w) 5 f fd ["rows"] (j5 C) := by
 refine F.okE Qm (fun vs H Q E h => ?_) (fun cdv A outer s H vs Q E hr hh h => ?_)
 · obtain ⟨a,rows,rfl,_⟩ := h
   rfl
 · obtain ⟨a,rows,rfl,hl,hn,hw,h64,q,qe⟩ := h
   refine ⟨_,(zg (zU (yz (yu (zF Ev.ok (hr.mono (by decide)) rfl Ev.bound Ev.kp Ev.bd .nil zV (za (pv 0) zb))))
     (zh (QF exP hh rfl (za zP zb)))
     zO)
     (zg (jk (i := 1) (Nc := ["sign","rows"]) (ix := [none,some 0]) Qm.nd rfl (Or.inl rfl) rfl rfl (by refine' yo ?zz; case zz => exact (jx rfl ts rfl tset rfl (xc PySem.F.plainAttrs_str PySem.F.slot_str_join PySem.F.type_str_join qq zP (by exact (za (pv 0) zb))))) (fun _ _ _ _ _ => (zp (i := 0) (by show (["sign","rows"]:List Str).Nodup; decide +kernel) rfl (Or.inl rfl))) (fun _ _ _ _ _ => yK) (fun _ _ _ _ _ => (zF Ro.ok (hr.mono (by decide)) rfl Ro.bound Ro.kp Ro.bd .nil zV (za (pv 1) (za (pv 0) zb)))))
     (zh (JG rfl rfl rfl exN.bound cN (fun pl Ec => zh (zw (W3 Mk.ok hr rfl Mk.bound Mk.kp Mk.bd .nil rfl (za (zo yd (by rfl) tl PySem.boot_len (za (zn (xP (K := K) rfl) (pv 0) ze (fun _ _ => rfl)) zb)) (za (zo (Qb (K := K) rfl) (by rfl) tl PySem.boot_len (za (pv 0) zb)) (za (pv 1) zb)))))) (fun ea => zh (W4 exP hh rfl (za zP zb))))))),?_⟩
   have lr:(txs rows).length = rows.length := List.length_map _
   refine ⟨_,rfl,a,rows,rfl,hl,hn,hw,fun H1 S1 => ?_⟩
   refine ⟨_,rfl,?_⟩
   refine ite2 (fun c1 => ?_) (fun c1 => ?_)
   · have c1:xf rows = false := by simpa using c1
     refine ⟨by show 1 <= sizeLine; decide,qe (fun p => ?_) _ S1⟩
     rw [p.1] at c1
     cases c1
   have c1:xf rows = true := by simpa using c1
   have ne:rows ≠ [] := fun z => by rw [z] at c1; cases c1
   have hev:∀ r ∈ rows,r.length = (rows.getD 0 []).length := fun r hr' => by
     unfold xf at c1
     rw [Bool.and_eq_true,List.all_eq_true] at c1
     exact of_decide_eq_true (c1.2 r hr')
   have sl:(rows.map List.length).sum <= 1000000 := by
     have:(rows.map List.length).sum <= rows.length * 1000 := jp hw
     have:rows.length * 1000 <= 1000 * 1000 := Nat.mul_le_mul_right _ hn
     omega
   have hl1 := S1 _ _ hl
   refine ⟨rfl,_,rfl,a,rows,rfl,rfl,SqL.of hl1,sl,rows.flatten,rfl,h64,fun D ms hD pm => ?_⟩
   have S2 := S1.trans (zf (o := .lst (ms.map fun c => V.str (sgn c))) hD)
   have hD2:(upd H1 D (.lst (ms.map fun c => V.str (sgn c)))) D = some (.lst (ms.map fun c => V.str (sgn c))) := zd
   generalize upd H1 D (.lst (ms.map fun c => V.str (sgn c))) = H2 at S2 hD2
   have lM:(ms.map fun c => V.str (sgn c)).length = ms.length := List.length_map _
   have l64:ms.length < 64 := by rw [pm.length_eq]; exact h64
   have inS:∀ c ∈ ms,∃ x y:Nat,(rw rows y)[x]? = some c := fun c hc => by
     have := ((xH rows.flatten).2.1 c).mp (pm.mem_iff.mp hc)
     obtain ⟨r,hr1,hr2⟩ := List.mem_flatten.mp this
     obtain ⟨y,hy⟩ := List.getElem?_of_mem hr1
     obtain ⟨x,hx⟩ := List.getElem?_of_mem hr2
     refine ⟨x,y,?_⟩
     unfold rw
     rw [List.getD_eq_getElem?_getD,hy]
     exact hx
   refine ⟨D,rfl,⟨_,SqL.of hD2⟩,yI (K := K) (a := D) (xs := ms.map fun c => V.str (sgn c)) (fun i ys σ H' => zm H' ys ((ms.take i).map (bxOf rows)) /\ Same H2 H' /\ ∃ o,σ = [o,some (.ref a)])
     ⟨.nil,Same.refl _,none,rfl⟩ (fun i ys σ H' hi h9 => by obtain ⟨e,S,_⟩ := h9; exact (⟨by rw [e.len,List.length_map,List.length_take]; exact Nat.le_trans (show _ <= 1000 by omega) (by decide),SqL.of (S _ _ hD2)⟩)) ?_ ?_⟩
   · rintro us σ H3 ⟨hB,S3,_⟩ lb nb
     rw [lM,List.take_length] at hB
     have S4 := (S2.trans S3).trans (zf (o := .lst us) nb)
     have hlb:(upd H3 lb (.lst us)) lb = some (.lst us) := zd
     have hB4 := hB.same (zf (o := .lst us) nb)
     generalize upd H3 lb (.lst us) = H4 at S4 hlb hB4
     have hl4 := S4 _ _ hl
     have r0:(txs rows)[0]? = some (.str (txt (rows.getD 0 []))) := by
       cases rows with
       | nil => exact absurd rfl ne
       | cons r rs => rfl
     have m0:rows.getD 0 [] ∈ rows := by
       cases rows with
       | nil => exact absurd rfl ne
       | cons r rs => exact List.mem_cons_self
     have w0 := hw _ m0
     have l0:(txt (rows.getD 0 [])).length <= sizeLine := by rw [zA]; exact Nat.le_trans w0 (by decide)
     have bsP:(ms.map (bxOf rows)).Perm ((dd rows.flatten).map (bxOf rows)) := pm.map _
     have ths:qo H4 us ((ms.map (bxOf rows)).map some) := Ql hB4
     have eW:((txt (rows.getD 0 [])).length:Int) = ((rows.getD 0 []).length:Nat) := by rw [zA]
     have eG:((txs rows).length:Int) = (rows.length:Nat) := by rw [lr]
     have big:(1000:Int) <= 2 ^ 28 := by decide
     dsimp only
     refine ⟨_,rfl,a,_,0,_,rfl,rfl,SqL.of hl4,zH r0,_,rfl,l0,_,rfl,a,_,rfl,.inl (SqL.of hl4),_,rfl,?_⟩
     rw [eW,eG]
     refine ⟨_,_,_,_,lb,us,(ms.map (bxOf rows)).map some,rfl,.num _,.num _,hlb,ths,by rw [List.length_map,List.length_map]; omega,fun W e => by injection e with e; omega,fun G e => by injection e with e; omega,?_,?_⟩
     · intro W G bs e1 e2 e3 pg p cs H5 S5 hp pcs st
       injection e1 with e1
       injection e2 with e2
       subst e1 e2
       have e3:ms.map (bxOf rows) = bs := some_inj e3
       subst e3
       exact q ⟨c1,ZX bsP.symm pg⟩ p cs H5 (S4.trans S5) hp (pcs.trans bsP) st
     · intro np H5 S5
       refine ⟨CN,rfl,mN,fun ea hea => ⟨by show 1 <= sizeLine; decide,zd,qe (fun ok => np ⟨_,_,_,rfl,rfl,rfl,ZX bsP ok.2⟩) _ ((S4.trans S5).trans (zf hea))⟩⟩
   · rintro i x ys σ H3 hx ⟨hB,S3,o,rfl⟩
     rw [List.getElem?_map] at hx
     cases em:ms[i]? with
     | none => rw [em] at hx; cases hx
     | some c =>
       rw [em] at hx
       cases hx
       dsimp only [zG,tYes]
       refine iteT ?_
       refine ⟨_,rfl,_,rfl,a,rows,c,rfl,(S2.trans S3) _ _ hl,hn,hw,inS c (List.mem_of_getElem? em),fun v l t r b H5 S5 R hb => ⟨?_,S3.trans S5,_,rfl⟩⟩
       rw [<- xQ (bxOf rows) em,Zt R]
       exact qt (hB.same S5) hb
end
end _K4
namespace _L2
open PySem
theorem j6 {X:Cx} {K:PySem.W.Frag} (hK:X.K = K):yr X (.builtin "isinstance") (fun xs H Q => ∃ x p cs t b,xs = [x,.ref p] /\ SqT K H p cs /\ cs.all jj = true /\ TyX K H x t /\ PySem.W.kitAny K t (cs.map clsV) = some b /\ Q (.bl b) H) := by
 subst hK
 exact WQ
theorem XC {X:Cx} {K:PySem.W.Frag} {o e:Expr} {to:TE} {t:TA} {apos cpos:Pos} (hK:X.K = K) (ho:PE X o to) (ha:PA X [e] t)
   (hbase:attributeBase o "append" X.env (eval o X.env) = eval o X.env := by rfl)
   (hfew:((backTo cpos (starEach [e] X.env)).all (fun x => !x.1) && (backToKw cpos (keywordEach [] X.env)).all (fun x => x.1.isSome)
     && decide ([e].length + ([]:List Keyword).length + (if ([]:List Keyword).isEmpty then 0 else 1) < 30)) = true := by rfl)
   (hline:(apos.endLine == cpos.line) = true := by rfl) (hs:starEach [e] X.env = (false,eval e X.env) :: starEach [] X.env := by rfl) (hplain:(backTo cpos (starEach [] X.env)).any (·.1) = false := by rfl) :
   PE X (.Call (.Attribute o "append" apos) [e] [] cpos) (tBM K "list" Xu to t) := by
 subst hK
 exact xc PySem.F.plainAttrs_list PySem.F.slot_list_append PySem.F.type_list_append xD ho ha hbase hfew hline hs hplain
end _L2
namespace _K4
open PySem _L2 _Til PySem.W _Pic
structure Kinds (K:PySem.W.Frag) (mg:Str -> Option Value) (C0 C1 C2 C3 C4 C5 C6 C7 C8 C9:Addr):Prop where
 m0:mg "PartError" = some (.ref C0)
 m1:mg "NoPicture" = some (.ref C1)
 m2:mg "NoPlace" = some (.ref C2)
 m3:mg "NoPage" = some (.ref C3)
 m4:mg "NoTree" = some (.ref C4)
 m5:mg "NoNeeds" = some (.ref C5)
 m6:mg "NoTexts" = some (.ref C6)
 m7:mg "NoRoom" = some (.ref C7)
 m8:mg "NoRow" = some (.ref C8)
 m9:mg "NoNumber" = some (.ref C9)
 mv:mg "ValueError" = none
 cP:yQ K C0
 c1:yQ K C1
 up:mroIn K C1 (.ref C0) = some true
 k1:kitOne K (.ref C1) (.ref C1) = some true
 kv:kitOne K (.ref C1) (.type "ValueError") = some true
 kA:kitAny K (.ref C1) [.ref C2,.ref C3,.ref C4,.ref C5] = some false
 kB:kitAny K (.ref C1) [.ref C6,.ref C7,.ref C8,.ref C9] = some false
noncomputable def wM:Sp := fun vs H Q _ => ∃ (a:Addr) (rows:List (List Nat)),vs = [.ref a] /\ H a = some (.lst (txs rows)) /\ rows.length <= 1000 /\ (∀ r ∈ rows,r.length <= 1000) /\ (dd rows.flatten).length < 64 /\ ¬ yf rows /\ ∀ H',Same H H' -> Q (.bl true) H'
theorem JY:bootBuiltins "ValueError" = some (.type "ValueError") := by decide +kernel
section
variable {P:Program} {w:World} {K:PySem.W.Frag} {mg:Str -> Option Value} {base:Heap}
theorem Yb:zC ["rows","kinds","e"] ["rows"] (zl sRef) := ⟨rfl,rfl,rfl,by decide +kernel,rfl,by decide +kernel,by decide +kernel⟩
theorem We {f fB C0 C1 C2 C3 C4 C5 C6 C7 C8 C9:Addr} {fd fdB:FuncData} (F:Fun K "_law_refused" "_law_refused" sRef f fd) (ti:mg "isinstance" = none) (Z:Kinds K mg C0 C1 C2 C3 C4 C5 C6 C7 C8 C9)
   (BA:Callee P w K mg base (CXE P w) 5 "read_picture" fB fdB ["rows"] (j5 C1)):FnOk P w K mg base CX0 6 f fd ["rows"] wM := by
 refine F.ok Yb (fun vs H Q E h => ?_) (fun cdv A outer s H vs Q E hr h => ?_)
 · obtain ⟨a,rows,rfl,_⟩ := h
   rfl
 · obtain ⟨a,rows,rfl,hl,hn,hw,h64,hno,q⟩ := h
   refine ⟨_,zg (zt (i := 1) Yb.nd rfl (Or.inl rfl) (zX zb))
     (zg (zat (i := 2) rfl rfl Yb.nd rfl rfl rfl Z.m0 Z.cP
       (fun pl Ec => zh (xl (QL BA.ok hr rfl BA.bound BA.kp BA.bd .nil rfl (za (pv 0) zb))))
       (fun ee => zg (zt (i := 1) Yb.nd rfl (Or.inl rfl) (zX (za (zo (qR (K := K) rfl) (by rfl) ti PyProof.Rows.boot_isinstance (za (pv 2) (za (xJ rfl Z.m1) zb))) (za (zo (qR (K := K) rfl) (by rfl) ti PyProof.Rows.boot_isinstance (za (pv 2) (za (x8 rfl Z.mv JY) zb))) zb))))
         (zg (xl (XC (K := K) rfl (pv 1) (za (zo (j6 (K := K) rfl) (by rfl) ti PyProof.Rows.boot_isinstance (za (pv 2) (za (zS (za (xJ rfl Z.m2) (za (xJ rfl Z.m3) (za (xJ rfl Z.m4) (za (xJ rfl Z.m5) zb))))) zb))) zb)))
         (zh (xl (XC (K := K) rfl (pv 1) (za (zo (j6 (K := K) rfl) (by rfl) ti PyProof.Rows.boot_isinstance (za (pv 2) (za (zS (za (xJ rfl Z.m6) (za (xJ rfl Z.m7) (za (xJ rfl Z.m8) (za (xJ rfl Z.m9) zb))))) zb))) zb)))))))
     (zh (zw (ye (zaq hr.units0) (pv 1) (zX (za yT (za yT (za yT (za yT zb))))) (zr _))))),?_⟩
   refine xG ⟨by show 0 <= sizeLine; decide,fun l0 n0 => ?_⟩
   have S0 := zf (o := .lst []) n0
   refine ⟨_,rfl,a,rows,rfl,S0 _ _ hl,hn,hw,h64,(fun ok => absurd ok hno),fun _ H1 S1 => ⟨C1,rfl,Z.up,fun ea hea => ?_⟩⟩
   have SE := zf (o := .ext (yp ea C1)) hea
   have hE:(upd H1 ea (.ext (yp ea C1))) ea = some (.ext (yp ea C1)) := zd
   generalize upd H1 ea (.ext (yp ea C1)) = H2 at SE hE ⊢
   refine xG ?_
   refine ⟨_,rfl,_,_,_,_,rfl,rfl,.exc hE Z.c1,Z.k1,?_⟩
   refine ⟨_,rfl,_,_,_,_,rfl,rfl,.exc hE Z.c1,Z.kv,by show 2 <= sizeLine; decide,fun lk nk => ?_⟩
   have Sk := zf (o := .lst [.bl true,.bl true]) nk
   have hK:(upd H2 lk (.lst [.bl true,.bl true])) lk = some (.lst [.bl true,.bl true]) := zd
   have hE3 := Sk _ _ hE
   generalize upd H2 lk (.lst [.bl true,.bl true]) = H3 at Sk hK hE3 ⊢
   refine ⟨_,rfl,.inl ⟨rfl,_,SqL.of hK⟩,_,rfl,by show 4 <= sizeLine; decide,fun t1 nt1 => ?_⟩
   have St := zf (o := .tup [.ref C2,.ref C3,.ref C4,.ref C5]) nt1
   refine ⟨_,_,_,_,_,rfl,SqT.of zd,rfl,.exc (St _ _ hE3) Z.c1,Z.kA,lk,_,_,rfl,rfl,St _ _ hK,by show 2 < sizeLine; decide,?_⟩
   have S4:Same H (upd (upd H3 t1 (.tup [.ref C2,.ref C3,.ref C4,.ref C5])) lk (.lst ([.bl true,.bl true] ++ [.bl false]))) := yH ((S0.trans S1).trans (SE.trans (Sk.trans St))) ((S0.trans S1).trans SE |>.free nk)
   have hK4:(upd (upd H3 t1 (.tup [.ref C2,.ref C3,.ref C4,.ref C5])) lk (.lst ([.bl true,.bl true] ++ [.bl false]))) lk = some (.lst [.bl true,.bl true,.bl false]) := zd
   have hE4:(upd (upd H3 t1 (.tup [.ref C2,.ref C3,.ref C4,.ref C5])) lk (.lst ([.bl true,.bl true] ++ [.bl false]))) ea = some (.ext (yp ea C1)) := by
     rw [zq (y9 hE3 hK (by intro z; cases z))]
     exact St _ _ hE3
   generalize upd (upd H3 t1 (.tup [.ref C2,.ref C3,.ref C4,.ref C5])) lk (.lst ([.bl true,.bl true] ++ [.bl false])) = H4 at S4 hK4 hE4 ⊢
   refine ⟨_,rfl,.inl ⟨rfl,_,SqL.of hK4⟩,_,rfl,by show 4 <= sizeLine; decide,fun t2 nt2 => ?_⟩
   have Su := zf (o := .tup [.ref C6,.ref C7,.ref C8,.ref C9]) nt2
   refine ⟨_,_,_,_,_,rfl,SqT.of zd,rfl,.exc (Su _ _ hE4) Z.c1,Z.kB,lk,_,_,rfl,rfl,Su _ _ hK4,by show 3 < sizeLine; decide,?_⟩
   have S5:Same H (upd (upd H4 t2 (.tup [.ref C6,.ref C7,.ref C8,.ref C9])) lk (.lst ([.bl true,.bl true,.bl false] ++ [.bl false]))) := yH (S4.trans Su) ((S0.trans S1).trans SE |>.free nk)
   have hK5:(upd (upd H4 t2 (.tup [.ref C6,.ref C7,.ref C8,.ref C9])) lk (.lst ([.bl true,.bl true,.bl false] ++ [.bl false]))) lk = some (.lst [.bl true,.bl true,.bl false,.bl false]) := zd
   generalize upd (upd H4 t2 (.tup [.ref C6,.ref C7,.ref C8,.ref C9])) lk (.lst ([.bl true,.bl true,.bl false] ++ [.bl false])) = H5 at S5 hK5 ⊢
   refine ⟨_,rfl,by show 4 <= sizeLine; decide,fun l9 n9 => ?_⟩
   have S9 := zf (o := .lst [.bl true,.bl true,.bl false,.bl false]) n9
   exact ⟨lk,l9,_,_,rfl,rfl,SqL.of (S9 _ _ hK5),SqL.of zd,rfl,rfl,q _ (S5.trans S9)⟩
end
end _K4
namespace _L2
open PySem PySem.Spec PyProof.Rows PySem.W
end _L2
namespace _L2
open PySem PySem.Spec PyProof.Rows
theorem Qn {K:PySem.W.Frag} {x:Str} {f c T:Addr} {oc o1:Value} {od o2:Option Addr} {fd:FuncData} {sl o3:Array (Option Value)} {vs:Array Value} (a:PySem.W.nsIn K mainGlobals x = some (some (.ref f))) (l:K.lookup f = some ⟨oc,od,.func fd,sl⟩) (e:fd.code = .ref c)
   (lc:K.lookup c = some ⟨o1,o2,.fields vs,o3⟩) (h:vs[11]? = some (.ref T)):PySem.W.tabIn K x = some (c,T) := by
 unfold PySem.W.tabIn
 simp only [a,l,e,lc,h]
end _L2
namespace _L2
open PySem PySem.Spec PyProof.Rows PySem.W
noncomputable def yJ (T:Addr) (qual:Str) (pos:Pos) (H:Hp):Prop := ∃ ps:Array Value,H T = some (.tbl ps) /\ TriplesOk ps.toList /\ (codeAmong pos ps.toList = none \/ ∃ c,codeAmong pos ps.toList = some (.ref c) /\ H c = some (.ext (CdIs c qual)))
theorem yJ.same {T:Addr} {qual:Str} {pos:Pos} {H H':Hp} (S:Same H H') (h:yJ T qual pos H):yJ T qual pos H' := by
 obtain ⟨ps,a,b,c | ⟨c,d,e⟩⟩ := h
 · exact ⟨ps,S _ _ a,b,.inl c⟩
 · exact ⟨ps,S _ _ a,b,.inr ⟨c,d,S _ _ e⟩⟩
theorem yJ.fresh {T:Addr} {qual:Str} {pos:Pos} {H:Hp} (h:H T = some (.tbl #[])):yJ T qual pos H := ⟨#[],h,trivial,.inl rfl⟩
noncomputable def But (T:Addr) (H H':Hp):Prop := ∀ b o,b ≠ T -> H b = some o -> H' b = some o
theorem But.trans {T:Addr} {H H1 H2:Hp} (a:But T H H1) (b:But T H1 H2):But T H H2 := fun c o n e => b c o n (a c o n e)
theorem Same.but {H H':Hp} (S:Same H H') (T:Addr):But T H H' := fun b o _ e => S b o e
section
variable {X:Cx} {pins:List (Addr × Obj)} {σ:St} {H:Hp} {s:Shared}
noncomputable def zbh (P:Addr) (qual:Str) (params:Arguments) (body:Expr) (scope:Scope) (pos:Pos):TE := fun _ H Q => yJ P qual pos H /\
 ∀ f c H',But P H H' -> H' f = some (.ext (FnIs f c qual params body scope)) -> H' c = some (.ext (CdIs c qual)) -> yJ P qual pos H' -> Q (.ref f) H'
theorem JZ {params:Arguments} {body:Expr} {scope:Scope} {pos:Pos} {c P:Addr} (hcode:X.env.code = .ref c) (C:CodeHd X.base c P) (hB:BMain X.mg X.base) (hcl:closureFor scope X.env = pure []) (hdef:defaultsOf params X.env = ([],[])) :
   PE X (.Lambda params body scope pos) (zbh P (X.env.qual ++ "<lambda>") params body scope pos) := by
 intro pins s σ H Q I h
 obtain ⟨⟨ps,hP,ht,hnf⟩,q⟩ := h
 have hPo:s.heap.get? P = some (tabObj ps) := I.hok P _ hP
 obtain ⟨bm,ob,b1,b2,b3,b4,b5,b6⟩ := hB
 have hg:s.heap.Ns mainGlobals X.mg := I.mod.glob.keeps I.bk
 have nb:∀ b o,X.base.get? b = some o -> b ≠ P := fun b o e z => by
   have := (I.bs b o e).2
   rw [z,hP] at this
   cases this
 have hgP:mainGlobals ≠ P := by
   obtain ⟨o,es,ep,e,_⟩ := I.mod.glob
   exact nb _ o e
 have hbG:bm ≠ mainGlobals := fun z => by
   obtain ⟨o,es,ep,e,hd,_⟩ := I.mod.glob
   rw [z,e] at b3
   cases b3
   rw [hd] at b6
   cases b6
 rcases hnf with hnf | ⟨cc,hf,hcc⟩
 · refine kla_eval hdef (kla_makeFunction (mg := X.mg) hcl I.ok.glob hg hcode (C.keeps I.bk) hPo ht hnf hgP ⟨bm,ob,b1,b2,hbG,nb _ _ b3,I.bk _ _ b3,b4,b5,b6⟩ fun c' ctv h' tk hx hge hlt hrec htb => ?_)
   have I1:Inv X pins σ (upd H P (.tbl (ps ++ #[rawInt pos.line,rawInt pos.col,.ref c']))) { s with heap := h',toks := tk } := I.grown hP hx htb
   have n1:H c' = none := I.hok.fresh hge
   have hPc:c' ≠ P := fun z => by rw [z,hP] at n1; cases n1
   have y1 := I.young hge
   have I2 := I1.kept (h' := h'.push (kla_obj "<lambda>" (X.env.qual ++ "<lambda>") params body scope [] ((X.mg "__name__").getD .none) c' ctv)) (t' := tk) fun b u e => Heap.get?_push_of_some _ e
   obtain ⟨c2,oc,vs,t,e2,hoc,hd,hv⟩ := hrec
   cases e2
   have I3 := I2.track (p := c') (o := .ext (CdIs c' (X.env.qual ++ "<lambda>"))) (by rw [zq hPc]; exact n1) (Heap.get?_none_of_le (Nat.le_trans I.sz hge)) y1.lo y1.ce y1.pi (CdIs.ok ⟨oc,vs,t,Heap.get?_push_of_some _ hoc,hd,hv⟩)
   have hge2:s.heap.objs.size <= h'.objs.size := by omega
   have n2:H h'.objs.size = none := I.hok.fresh hge2
   have hPf:h'.objs.size ≠ P := fun z => by rw [z,hP] at n2; cases n2
   have hcf:h'.objs.size ≠ c' := by omega
   have y2 := I.young hge2
   have I4 := I3.track (p := h'.objs.size) (o := .ext (FnIs h'.objs.size c' (X.env.qual ++ "<lambda>") params body scope)) (by rw [zq hcf,zq hPf]; exact n2) (Heap.get?_none_of_le (Nat.le_trans I.sz hge2)) y2.lo y2.ce y2.pi
     (FnIs.ok ⟨_,ctv,Heap.get?_push_size _ rfl⟩)
   refine ⟨.ref h'.objs.size,_,I4,rfl,q _ c' _ (fun b o hb e => ?_) zd ?_ ⟨ps ++ #[rawInt pos.line,rawInt pos.col,.ref c'],?_,?_,.inr ⟨c',?_,?_⟩⟩⟩
   · rw [zq (zy e n2),zq (zy e n1),zq hb]
     exact e
   · rw [zq hcf.symm,zd]
   · rw [zq hPf.symm,zq hPc.symm,zd]
   · rw [Array.toList_append]
     exact TriplesOk_snoc _ _ _ _ ht
   · rw [Array.toList_append]
     exact codeAmong_snoc _ ht hnf
   · rw [zq hcf.symm,zd]
 · refine kla_eval hdef (kla_makeFunctionHit (mg := X.mg) hcl I.ok.glob hg hcode (C.keeps I.bk) hPo ht hf ⟨bm,ob,b1,b2,hbG,nb _ _ b3,I.bk _ _ b3,b4,b5,b6⟩ fun ctv h' tk hk hge => ?_)
   have I1 := I.kept (h' := h'.push (kla_obj "<lambda>" (X.env.qual ++ "<lambda>") params body scope [] ((X.mg "__name__").getD .none) cc ctv)) (t' := tk) fun b u e => Heap.get?_push_of_some _ (hk b u e)
   have n2:H h'.objs.size = none := I.hok.fresh hge
   have y2 := I.young hge
   have I4 := I1.track (p := h'.objs.size) (o := .ext (FnIs h'.objs.size cc (X.env.qual ++ "<lambda>") params body scope)) n2 (Heap.get?_none_of_le (Nat.le_trans I.sz hge)) y2.lo y2.ce y2.pi
     (FnIs.ok ⟨_,ctv,Heap.get?_push_size _ rfl⟩)
   refine ⟨.ref h'.objs.size,_,I4,rfl,q _ cc _ (fun b o hb e => ?_) zd ?_ ⟨ps,?_,ht,.inr ⟨cc,hf,?_⟩⟩⟩
   · rw [zq (zy e n2)]
     exact e
   · rw [zq (zy hcc n2)]
     exact hcc
   · rw [zq (zy hP n2)]
     exact hP
   · rw [zq (zy hcc n2)]
     exact hcc
end
noncomputable def zaP (K:Frag) (qual:Str) (params:Arguments) (body:Expr) (scope:Scope) (tL tl:TE):TE := fun σ H Q => tl σ H fun x H1 => tL σ H1 fun fv H2 =>
 ∃ (l f c:Addr) (xs:List V) (kz:List (Int × Int)) (B:Int),x = .ref l /\ fv = .ref f /\ H2 f = some (.ext (FnIs f c qual params body scope)) /\ H2 c = some (.ext (CdIs c qual)) /\ SqL K H2 l xs /\ 0 < xs.length /\ xs.length < 64 /\ kz.length = xs.length /\ (∀ z ∈ kz,0 <= z.2 /\ z.2 < B) /\
   (∀ (i:Nat) (x:V) (z:Int × Int),xs[i]? = some x -> kz[i]? = some z -> ∃ p ys,x = .ref p /\ H2 p = some (.tup ys) /\ atI ys 1 = some (.int z.1) /\ atI ys 0 = some (.int z.2)) /\
   ∀ (D:Addr) (p:Array Nat) (H':Hp),Same H2 H' -> H' D = none -> _Srt.Ord xs.length p -> _Srt.Up (yv B kz) p xs.length -> Q (.ref D) (upd H' D (.lst (p.toList.map fun i => xs.getD i .non)))
theorem Jb {X:Cx} {l:Expr} {tl tL:TE} {qual:Str} {params:Arguments} {body:Expr} {scope:Scope} {lpos kpos p pos:Pos} (hg:Gl X "sorted") (hm:X.mg "sorted" = none) (hl:PE X l tl) (hlam:PE X (.Lambda params body scope lpos) tL)
   (hr:Room 3 X.A) (S:zC ["box"] ["box"] scope) (hb:∀ (pm ctv:Value) (c:Addr) (u:Value),bindArgs (kla_fn "<lambda>" qual params body scope [] pm (.ref c) ctv) ⟨[u],[]⟩ = pure ((["box"]:List Str).zip [u]))
   (hbody:∀ (f c:Addr) (A:Around) (outer:List Env) (s:Shared) (H:Hp),PE (cxOf CX0 X.prog X.w X.K X.mg X.base ["box"] qual scope f (.ref c) A outer s H E0).nox body (tTup (zB (tOp (rIxT X.K) (tVar 0) (tC (.int 1))) (zB (tOp (rIxT X.K) (tVar 0) (tC (.int 0))) tNil))))
   (hs:starEach [l] X.env = [(false,eval l X.env)] := by rfl) :
   PE X (.Call (.Name "sorted" p) [l] [⟨some "key",.Lambda params body scope lpos,kpos⟩] pos) (zaP X.K qual params body scope tL tl) := by
 intro pins s σ H Q I h
 refine wpAny_Call_Name_kw (xg I hg hm boot_sorted ?_ (by decide) (by decide))
 refine PyProof.Rows.callWith_kw (thn ((za hl zb hs) pos pins s σ H (fun vs H1 => match vs with
   | [x] => tL σ H1 fun fv H2 => ∃ (l f c:Addr) (xs:List V) (kz:List (Int × Int)) (B:Int),x = .ref l /\ fv = .ref f /\ H2 f = some (.ext (FnIs f c qual params body scope)) /\ H2 c = some (.ext (CdIs c qual)) /\ SqL X.K H2 l xs /\ 0 < xs.length /\ xs.length < 64 /\ kz.length = xs.length /\ (∀ z ∈ kz,0 <= z.2 /\ z.2 < B) /\
     (∀ (i:Nat) (x:V) (z:Int × Int),xs[i]? = some x -> kz[i]? = some z -> ∃ p ys,x = .ref p /\ H2 p = some (.tup ys) /\ atI ys 1 = some (.int z.1) /\ atI ys 0 = some (.int z.2)) /\
     ∀ (D:Addr) (p:Array Nat) (H':Hp),Same H2 H' -> H' D = none -> _Srt.Ord xs.length p -> _Srt.Up (yv B kz) p xs.length -> Q (.ref D) (upd H' D (.lst (p.toList.map fun i => xs.getD i .non)))
   | _ => False) I h) fun us s1 ⟨vs,H1,I1,r1,q1⟩ => ?_) (by rw [hs]; rfl) (by rw [hs]; rfl) rfl rfl
 match vs,q1 with
 | [x],q1 =>
 obtain ⟨u,rfl,ru⟩ := vals1 r1
 refine thn ((Za (nm := some "key") hlam Yd) pos pins s1 σ H1 (fun ws H2 => match ws with
   | [fv] => ∃ (l f c:Addr) (xs:List V) (kz:List (Int × Int)) (B:Int),x = .ref l /\ fv = .ref f /\ H2 f = some (.ext (FnIs f c qual params body scope)) /\ H2 c = some (.ext (CdIs c qual)) /\ SqL X.K H2 l xs /\ 0 < xs.length /\ xs.length < 64 /\ kz.length = xs.length /\ (∀ z ∈ kz,0 <= z.2 /\ z.2 < B) /\
     (∀ (i:Nat) (x:V) (z:Int × Int),xs[i]? = some x -> kz[i]? = some z -> ∃ p ys,x = .ref p /\ H2 p = some (.tup ys) /\ atI ys 1 = some (.int z.1) /\ atI ys 0 = some (.int z.2)) /\
     ∀ (D:Addr) (p:Array Nat) (H':Hp),Same H2 H' -> H' D = none -> _Srt.Ord xs.length p -> _Srt.Up (yv B kz) p xs.length -> Q (.ref D) (upd H' D (.lst (p.toList.map fun i => xs.getD i .non)))
   | _ => False) I1 q1) fun us2 s2 ⟨ws,H2,I2,r2,q2⟩ => ?_
 match ws,q2 with
 | [fv],q2 =>
 obtain ⟨u2,rfl,ru2⟩ := vals1 r2
 obtain ⟨la,f,c,xs,kz,B,rfl,rfl,hf,hc,hL,h1,h64,hkz,hB,items,q⟩ := q2
 cases (show u = Value.ref la from ru)
 cases (show u2 = Value.ref f from ru2)
 show wpAny _ _ (call (.builtin "sorted") [.ref la] [(Str.ofString "key",.ref f)]) _ _ _
 refine wz I2 hL h1 h64 hkz hB (fun H' => Same H2 H') (Same.refl _) (fun pins' i x v z s' H' hx hz rx I' g' => ?_) fun D p H' s' g' _ hD po pu I' => ⟨.ref D,_,I',rfl,q D p H' g' hD po pu⟩
 obtain ⟨pa,ys,rfl,hp,a1,a0⟩ := items i x z hx hz
 cases (show v = Value.ref pa from rx)
 refine wpAny_mono (Yk (Q := fun v H'' => ∃ p',v = .ref p' /\ Same H' H'' /\ H'' p' = some (.tup [.int z.1,.int z.2])) I' (A := X.A.in1.in1) I'.ok.frames hr.in1.in1 S (g' _ _ hf) (g' _ _ hc) (fun pm ctv => hb pm ctv c _) (show Vals [V.ref pa] [Value.ref pa] from .cons rfl .nil) rfl ⟨_,hbody f c _ _ s' H',?_⟩) (fun k s'' ⟨v',H'',I'',r'',p',e,S',h'⟩ => ?_) fun _ _ z => z
 · exact ⟨_,rfl,_,_,_,_,rfl,rfl,SqT.of (g' _ _ hp),a1,_,rfl,_,_,_,_,rfl,rfl,SqT.of (g' _ _ hp),a0,by show 2 <= sizeLine; decide,fun p' n' => ⟨p',rfl,fun b o e => by rw [zq (zy e n')]; exact e,zd⟩⟩
 · subst e
   cases (show k = Value.ref p' from r'')
   exact ⟨p',H'',rfl,I'',g'.trans S',S',h'⟩
noncomputable def Qo (Ts:List Addr) (H:Hp):Prop := (∀ T ∈ Ts,H T = some (.tbl #[])) /\ ∀ b,H b = none \/ b ∈ Ts \/ ∃ o xs,H b = some (.frz o (.lst xs))
theorem Wf {P:Program} {w:World} {K:PySem.W.Frag} {mg mb:Str -> Option Value} {CX:CXT} {k:Nat} {fa a:Addr} {Ts:List Addr} {fd:FuncData} {x:Str} {sp:Sp} {s₁:Shared} {vs:List Value} {ns:List Int}
   (KX:K.In s₁.heap) (hns:s₁.heap.Ns mainGlobals mg) (hb:s₁.heap.Ns builtinsNs mb) (hbb:∀ x:Str,x ≠ "__name__" -> mb x = bootBuiltins x) (hlim:s₁.heap.NoLimit) (hg:s₁.gens = #[])
   (ha:s₁.heap.get? a = some { cls := .type "list",data := .seq vs.toArray }) (hi:IntsAre vs ns) (hl:ns.length <= sizeLine) (hr:Room k callerA) (hT:∀ T ∈ Ts,∃ c,s₁.heap.TableAt c T #[]) (hKT:∀ T ∈ Ts,K.lookup T = none) (hBM:BMain mg s₁.heap)
   (F:∀ base:Heap,K.In base -> base.Ns mainGlobals mg -> BMain mg base -> FnOk P w K mg base CX k fa fd [x] sp) (hbind:∀ (s:Shared) (u:Value),BindsTo s fd ⟨[u],[]⟩ [(x,u)])
   (hsp:∀ H:Hp,Qo Ts H -> SqL K H a (ns.map V.int) -> sp [.ref a] H (fun v _ => v = .bl true) fun _ _ _ => False)
   (hCX:∀ H e s',CX [] H s₁ (fun _ _ _ => False) e s' -> False) :
   codeAny (model P w) callerA (.call (.ref fa) ⟨[.ref a],[]⟩) (fun r s' => r = .ok (.ret (.bool true)) /\ OldK s₁.heap s'.heap /\ s'.os = s₁.os /\ AllBare s'.gens) s₁ := by
 have rv := ZF hi
 have lenV := hi.length
 have aT:a ∉ Ts := fun e => by
   obtain ⟨c,z⟩ := hT a e
   have z := z.2
   rw [ha] at z
   cases z
 have core:∀ H:Hp,Qo Ts H -> SqL K H a (ns.map V.int) -> HOk P w H s₁.heap -> (∀ b,H b ≠ none -> b = a \/ b ∈ Ts) -> (H a ≠ none -> K.lookup a = none) ->
     codeAny (model P w) callerA (.call (.ref fa) ⟨[.ref a],[]⟩) (fun r s' => r = .ok (.ret (.bool true)) /\ OldK s₁.heap s'.heap /\ s'.os = s₁.os /\ AllBare s'.gens) s₁ := by
   intro H hO hS hok hA hK
   have base_of:∀ {b:Addr} {o:Obj},s₁.heap.get? b = some o -> H b = none -> (hidT s₁.heap H).get? b = some o := fun e n => QC e n
   have noA:∀ {b:Addr} {o:Obj},s₁.heap.get? b = some o -> (∀ xs n,o.data ≠ .seq xs n) -> (∀ fs,o.data ≠ .fields fs) -> H b = none := fun {b o} e d1 d2 => by
     cases q:H b with
     | none => rfl
     | some u =>
       rcases hA b (by rw [q]; simp) with e' | e'
       · subst e'
         rw [ha] at e; cases e
         exact absurd rfl (d1 vs.toArray _)
       · obtain ⟨c,z⟩ := hT b e'
         rw [z.2] at e; cases e
         exact absurd rfl (d2 #[])
   have nsK:∀ {b:Addr} {m:Str -> Option Value},s₁.heap.Ns b m -> (hidT s₁.heap H).Ns b m := fun {b m} ⟨o,es,ep,e,d,r⟩ => ⟨o,es,ep,base_of e (noA e (fun _ _ z => by rw [d] at z; cases z) fun _ z => by rw [d] at z; cases z),d,r⟩
   have hKb:K.In (hidT s₁.heap H) := fun b o e => base_of (KX b o e) (by
     cases q:H b with
     | none => rfl
     | some u =>
       rcases hA b (by rw [q]; simp) with e' | e'
       · subst e'
         rw [hK (by rw [q]; simp)] at e; cases e
       · rw [hKT b e'] at e; cases e)
   have hM:Mod K mg (hidT s₁.heap H) := ⟨hKb,nsK hns,⟨mb,nsK hb,hbb⟩,let ⟨mc,h1,h2⟩ := hlim; ⟨mc,nsK h1,h2⟩⟩
   have hBM':BMain mg (hidT s₁.heap H) := by
     obtain ⟨bm,ob,b1,b2,b3,b4,b5,b6⟩ := hBM
     exact ⟨bm,ob,b1,b2,base_of b3 (noA b3 (fun _ _ z => by rw [b6] at z; cases z) fun _ z => by rw [b6] at z; cases z),b4,b5,b6⟩
   have e0:Env0 P w K mg (hidT s₁.heap H) callerA [] s₁ H := ⟨rfl,hM,fun b o e => Jn e,Nat.le_of_eq (Wp _ _),trivial,fun b hb => absurd (show b ∈ ([]:List Addr) from hb) (by simp),hok,.of_eq hg⟩
   refine codeAny_mono ((F _ hKb (nsK hns) hBM').run callerA [] s₁ H ⟨[.ref a],[]⟩ [.ref a] [.ref a] _ _ hr e0 (hbind s₁ (.ref a)) (.cons rfl .nil) (hsp H hO hS)) fun r s' h => ?_
   cases r with
   | error e => exact (hCX H e s' h).elim
   | ok fl =>
     cases fl with
     | next => exact False.elim h
     | brk => exact False.elim h
     | cont => exact False.elim h
     | ret u =>
       obtain ⟨v,H',os,bare,un,hok',r',q⟩ := h
       have q':v = .bl true := q
       subst q'
       obtain rfl:u = Value.bool true := r'
       have kp:∀ b o,b ∉ Ts -> s₁.heap.get? b = some o -> s'.heap.get? b = some o := fun b o nb e => by
         cases q:H b with
         | none => exact un.keep b o e q (by intro z; exact absurd (show b ∈ ([]:List Addr) from z) (by simp)) (by simp)
         | some u =>
           rcases hO.2 b with z | z | ⟨ob,xs,z⟩
           · rw [q] at z; cases z
           · exact absurd z nb
           · have z2 := un.frzs b ob _ z
             obtain ⟨e1,_⟩ := hok b _ z
             obtain ⟨e2,_⟩ := hok' b _ z2
             rw [e] at e1; cases e1
             exact e2
       have tb:∀ b ∈ Ts,∃ more:Array Value,s'.heap.get? b = some { cls := .none,data := .fields (#[] ++ more) } := fun b hb => by
         obtain ⟨more,hm⟩ := un.tbls b #[] (hO.1 b hb)
         exact ⟨more,hok' b _ hm⟩
       refine ⟨rfl,⟨fun b o e => ?_,fun b o e => ?_⟩,os,bare⟩
       · by_cases hb:b ∈ Ts
         · obtain ⟨c,hc⟩ := hT b hb
           obtain ⟨more,hm⟩ := tb b hb
           obtain rfl:o = { cls := .none,data := .fields #[] } := Option.some.inj (e.symm.trans hc.2)
           exact .inr (.inl ⟨hc.isCodeTable,rfl,#[],more,rfl,hm⟩)
         · exact .inl (kp b o hb e)
       · by_cases hb:b ∈ Ts
         · obtain ⟨more,hm⟩ := tb b hb
           exact ⟨_,hm⟩
         · exact ⟨o,kp b o hb e⟩
 cases hk:K.lookup a with
 | some o =>
   have e := KX a o hk
   rw [ha] at e
   cases e
   refine core (fun b => if b ∈ Ts then some (.tbl #[]) else none) ⟨fun T hT => if_pos hT,fun b => ?_⟩ (.inr ⟨_,vs.toArray,_,hk,rfl,rfl,rfl,by rw [List.size_toArray,lenV]; exact hl,by simpa using rv⟩) (fun b u z => ?_) (fun b z => ?_) fun z => absurd (if_neg aT) z
   · by_cases hb:b ∈ Ts
     · exact .inr (.inl hb)
     · exact .inl (if_neg hb)
   · by_cases hb:b ∈ Ts
     · have z' := (if_pos hb).symm.trans z
       cases z'
       obtain ⟨c,z⟩ := hT b hb
       exact z.2
     · have z' := (if_neg hb).symm.trans z
       cases z'
   · by_cases hb:b ∈ Ts
     · exact .inr hb
     · exact absurd (if_neg hb) z
 | none =>
   refine core (fun b => if b ∈ Ts then some (.tbl #[]) else if b = a then some (.frz { cls := .type "list",data := .seq vs.toArray } (.lst (ns.map V.int))) else none) ⟨fun T hT => if_pos hT,fun b => ?_⟩ (.inl (.inr ⟨{ cls := .type "list",data := .seq vs.toArray },by simp [aT]⟩)) (fun b u z => ?_) (fun b z => ?_) fun _ => hk
   · by_cases hb:b ∈ Ts
     · exact .inr (.inl hb)
     · by_cases hb':b = a
       · exact .inr (.inr ⟨_,_,(if_neg hb).trans (if_pos hb')⟩)
       · exact .inl ((if_neg hb).trans (if_neg hb'))
   · by_cases hb:b ∈ Ts
     · have z' := (if_pos hb).symm.trans z
       cases z'
       obtain ⟨c,z⟩ := hT b hb
       exact z.2
     · have z' := (if_neg hb).symm.trans z
       by_cases hb':b = a
       · have z2 := (if_pos hb').symm.trans z'
         cases z2
         subst hb'
         exact ⟨ha,by rw [List.length_map]; exact hl,vs,_,rv,ha⟩
       · have z2 := (if_neg hb').symm.trans z'
         cases z2
   · by_cases hb:b ∈ Ts
     · exact .inr hb
     · by_cases hb':b = a
       · exact .inl hb'
       · exact absurd ((if_neg hb).trans (if_neg hb')) z
theorem Qp {l:PySem.W.OpenLaw} {n k:Nat} {q:Program} {loose:List Str} {XP:(Str -> Option Value) -> Heap -> Prop} {YP:World -> Heap -> Prop} {d:DefRec} {K:Params -> PySem.W.Frag} {CX:World -> CXT} {T c T' c':Addr} {sp:World -> Sp} {x x1 x2:Str}
   (hn:l.most = some n) (hn2:n <= sizeLine) (hdf:d.params.defaults = []) (hr:Room k callerA)
   (hY:∀ (w:World) (h:Heap),YP w h -> (K w.params).In h) (hrec:((recsOf q).find? (fun e => e.name == x1)).isSome = true) (htab:∀ w:World,PySem.W.tabIn (K w.params) x1 = some (c,T)) (hKT:∀ w:World,(K w.params).lookup T = none)
   (hrec2:((recsOf q).find? (fun e => e.name == x2)).isSome = true) (htab2:∀ w:World,PySem.W.tabIn (K w.params) x2 = some (c',T')) (hKT2:∀ w:World,(K w.params).lookup T' = none)
   (F:∀ (w:World) (mg:Str -> Option Value) (fa:Addr) (h:Heap),(K w.params).In h -> h.Ns mainGlobals mg -> mg d.name = some (.ref fa) -> PySem.W.CodeHd h c T -> PySem.W.CodeHd h c' T' ->
     ∃ fd:FuncData,(∀ (s:Shared) (u:Value),BindsTo s fd ⟨[u],[]⟩ [(x,u)]) /\
       ∀ base:Heap,(K w.params).In base -> base.Ns mainGlobals mg -> BMain mg base -> FnOk l.prog w (K w.params) mg base (CX w) k fa fd [x] (sp w))
   (hsp:∀ (w:World) (H:Hp) (a:Addr) (ns:List Int),ns.length <= n -> H T = some (.tbl #[]) -> H T' = some (.tbl #[]) -> SqL (K w.params) H a (ns.map V.int) -> sp w [.ref a] H (fun v _ => v = .bl true) fun _ _ _ => False)
   (hCX:∀ (w:World) (H:Hp) (s:Shared) (e:Value) (s':Shared),CX w [] H s (fun _ _ _ => False) e s' -> False) :
   PySem.W.WalkO q loose XP YP l.row.toRowW d [] (fun f vs => PySem.call f vs) := by
 obtain ⟨d1,hd1⟩ := Option.isSome_iff_exists.mp hrec
 have hn1:d1.name = x1 := beq_iff_eq.mp (List.find?_some (p := fun e:DefRec => e.name == x1) hd1)
 obtain ⟨d2,hd2⟩ := Option.isSome_iff_exists.mp hrec2
 have hn2':d2.name = x2 := beq_iff_eq.mp (List.find?_some (p := fun e:DefRec => e.name == x2) hd2)
 subst hn1 hn2'
 refine _Att.YZ hn hdf fun w s₀ s₁ mg mb fa o pm cd doc a vs ns G Y ho hd hcd hmg hobj hints hlen hg => ?_
 have KX := hY w _ Y
 obtain ⟨hCd,hTo⟩ := PySem.W.tab_of G.T KX hd1 (htab w)
 obtain ⟨hCd2,hTo2⟩ := PySem.W.tab_of G.T KX hd2 (htab2 w)
 obtain ⟨fd,hb,hF⟩ := F w mg fa _ KX G.T.g hmg hCd hCd2
 refine Wf (Ts := [T,T']) KX G.T.g G.T.b G.T.builtins G.T.nolimit hg hobj hints (Nat.le_trans hlen hn2) hr (fun t ht => ?_) (fun t ht => ?_) G.T.bmain hF hb (fun H hO hS => hsp w H a ns hlen (hO.1 T (by simp)) (hO.1 T' (by simp)) hS) fun H e s' => hCX w H s₁ e s'
 · rcases List.mem_cons.mp ht with rfl | ht
   · exact ⟨c,hCd.tab hTo⟩
   · rcases List.mem_cons.mp ht with rfl | ht
     · exact ⟨c',hCd2.tab hTo2⟩
     · cases ht
 · rcases List.mem_cons.mp ht with rfl | ht
   · exact hKT w
   · rcases List.mem_cons.mp ht with rfl | ht
     · exact hKT2 w
     · cases ht
end _L2
namespace _Til
end _Til
namespace _Til
noncomputable def TLb (a b:Bx):Prop := a.t < b.t \/ (a.t = b.t /\ a.l <= b.l)
theorem Qq {cs:List Bx} {n m:Int} (T:z0 cs n m) {a b:Bx} (ha:a ∈ cs) (hb:b ∈ cs) (h1:a.t = b.t) (h2:a.l = b.l):a = b := by
 obtain ⟨i,hi⟩ := List.getElem?_of_mem ha
 obtain ⟨j,hj⟩ := List.getElem?_of_mem hb
 by_cases hij:i = j
 · subst hij
   rw [hi] at hj
   exact Option.some.inj hj
 · have ap := T.apart hi hj hij
   have o1 := T.wf a ha
   have o2 := T.wf b hb
   have a1 := o1.h1
   have a2 := o1.v1
   have a3 := o2.h1
   have a4 := o2.v1
   omega
theorem Xn {cs ds:List Bx} {n m:Int} (T:z0 cs n m) (p:ds.Perm cs) (h1:ds.Pairwise TLb) (h2:cs.Pairwise TLb):ds = cs :=
 List.Perm.eq_of_pairwise (le := TLb) (fun a b ha hb x y => Qq T (p.mem_iff.mp ha) hb (by unfold TLb at x y; omega) (by unfold TLb at x y; omega)) h1 h2 p
end _Til
namespace _K4
open PySem _L2 _Til PySem.W _Pic
theorem eqT {K:PySem.W.Frag} {H:Hp} {n:Nat} {a c:Addr} {xs ys:List V} (h1:SqT K H a xs) (h2:SqT K H c ys) (hl:xs.length = ys.length) (h:∀ j,j < xs.length -> EqR K H n (xs.getD j .non) (ys.getD j .non) true):EqR K H (n + 1) (.ref a) (.ref c) true := by
 have := EqR.tups (e := fun _ => true) h1 h2 (fun j a _ => h j a)
 have e:((List.range (min xs.length ys.length)).all (fun _ => true) && xs.length == ys.length) = true := by rw [hl]; simp
 rw [e] at this
 exact this
theorem eqL {K:PySem.W.Frag} {H:Hp} {n:Nat} {a c:Addr} {xs ys:List V} (h1:SqL K H a xs) (h2:SqL K H c ys) (hl:xs.length = ys.length) (h:∀ j,j < xs.length -> EqR K H n (xs.getD j .non) (ys.getD j .non) true):EqR K H (n + 1) (.ref a) (.ref c) true := by
 have := EqR.lsts (e := fun _ => true) h1 h2 hl h
 have e:((List.range xs.length).all (fun _ => true)) = true := by simp
 rw [e] at this
 exact this
theorem eqI {K:PySem.W.Frag} {H:Hp} (n:Nat) (i:Int):EqR K H n (.int i) (.int i) true := by
 have := EqR.flat (K := K) (H := H) (n := n) (x := .int i) (y := .int i) rfl rfl
 have e:eqV (.int i) (.int i) = true := by show (i == i) = true; simp
 rw [e] at this
 exact this
theorem zaQ {K:PySem.W.Frag} {H:Hp} {v u:V} {b:Bx} (h1:yR H v b) (h2:yR H u b):EqR K H 1 v u true := by
 obtain ⟨p,rfl,hp⟩ := h1
 obtain ⟨q,rfl,hq⟩ := h2
 refine eqT (z6 hp K) (z6 hq K) rfl fun j hj => ?_
 match j,hj with
 | 0,_ => exact eqI 0 _
 | 1,_ => exact eqI 0 _
 | 2,_ => exact eqI 0 _
 | 3,_ => exact eqI 0 _
theorem j7 {K:PySem.W.Frag} {H:Hp} {us vs:List V} {bs:List Bx} (h1:zm H us bs) (h2:zm H vs bs):us.length = vs.length /\ ∀ j,j < us.length -> EqR K H 1 (us.getD j .non) (vs.getD j .non) true := by
 refine ⟨h1.len.trans h2.len.symm,fun j hj => ?_⟩
 rw [h1.len] at hj
 obtain ⟨v,hv,bv⟩ := h1.get (List.getElem?_eq_getElem hj)
 obtain ⟨u,hu,bu⟩ := h2.get (List.getElem?_eq_getElem hj)
 rw [List.getD_eq_getElem?_getD,hv,List.getD_eq_getElem?_getD,hu]
 exact zaQ bv bu
theorem Qr {K:PySem.W.Frag} {H:Hp} {a c:Addr} {us vs:List V} {bs:List Bx} (h1:zm H us bs) (h2:zm H vs bs) (s1:SqT K H a us) (s2:SqT K H c vs):EqR K H 2 (.ref a) (.ref c) true := eqT s1 s2 (j7 (K := K) h1 h2).1 (j7 h1 h2).2
theorem J0 {K:PySem.W.Frag} {H:Hp} {p q:Addr} {W G:Int} {bs:List Bx} (h1:xY H p W G bs) (h2:xY H q W G bs):EqR K H 3 (.ref p) (.ref q) true := by
 obtain ⟨tb,us,a1,a2,a3,_⟩ := h1
 obtain ⟨tc,vs,b1,b2,b3,_⟩ := h2
 refine eqT (SqT.of a1) (SqT.of b1) rfl fun j hj => ?_
 match j,hj with
 | 0,_ => exact eqI 2 _
 | 1,_ => exact eqI 2 _
 | 2,_ => exact Qr a3 b3 (SqT.of a2) (SqT.of b2)
theorem Qs {K:PySem.W.Frag} {H:Hp} {a c:Addr} {rows:List (List Nat)} (h1:SqL K H a (txs rows)) (h2:SqL K H c (txs rows)):EqR K H 1 (.ref a) (.ref c) true := by
 refine eqL h1 h2 rfl fun j hj => ?_
 obtain ⟨r,hr⟩ : ∃ r,(txs rows).getD j .non = .str (txt r) := by
   obtain ⟨r,_,e⟩ := qS (List.getElem?_eq_getElem hj)
   exact ⟨r,by rw [List.getD_eq_getElem?_getD,List.getElem?_eq_getElem hj,e]; rfl⟩
 rw [hr]
 have := EqR.flat (K := K) (H := H) (n := 0) (x := .str (txt r)) (y := .str (txt r)) rfl rfl
 rw [YA rfl] at this
 exact this
abbrev lamQ:Str := ("_law_due" : Str) ++ ".<locals>." ++ "<lambda>"
abbrev xK:Pos := ⟨182,61,182,89⟩
structure Small (rows:List (List Nat)):Prop where
 n:rows.length <= 1000
 w:∀ r ∈ rows,r.length <= 1000
 s:(dd rows.flatten).length < 64
noncomputable def Wg (T:Addr):Sp := fun vs H Q _ => ∃ (a:Addr) (rows:List (List Nat)),vs = [.ref a] /\ H a = some (.lst (txs rows)) /\ Small rows /\ yJ T lamQ xK H /\
 (¬ yf rows -> ∀ H',But T H H' -> yJ T lamQ xK H' -> Q .non H') /\
 (yf rows -> ∀ (pg:Addr) (cs:List Bx) (H':Hp),But T H H' -> yJ T lamQ xK H' -> xY H' pg ((rows.getD 0 []).length:Nat) (rows.length:Nat) cs -> cs.Perm ((dd rows.flatten).map (bxOf rows)) -> cs.Pairwise TL -> Q (.ref pg) H')
noncomputable def jJ (T:Addr):Sp := fun vs H Q _ => ∃ (a:Addr) (rows:List (List Nat)),vs = [.ref a] /\ H a = some (.lst (txs rows)) /\ Small rows /\ yJ T lamQ xK H /\ ∀ H',But T H H' -> yJ T lamQ xK H' -> Q (.bl true) H'
section
variable {P:Program} {w:World} {K:PySem.W.Frag} {mg:Str -> Option Value} {base:Heap}
theorem j8:zC ["rows","handed","due","found"] ["rows"] (zl jh) := ⟨rfl,rfl,rfl,by decide +kernel,rfl,by decide +kernel,by decide +kernel⟩
theorem Qt {f fD fR fF C1 T:Addr} {fd fdD fdR fdF:FuncData} (F:Fun K "_law_either" "_law_either" jh f fd) (ti:mg "isinstance" = none) (tlist:mg "list" = none) (ttup:mg "tuple" = none)
   (Du:Callee P w K mg base CX0 4 "_law_due" fD fdD ["rows"] (Wg T)) (Rf:Callee P w K mg base CX0 6 "_law_refused" fR fdR ["rows"] wM) (Rp:Callee P w K mg base (CXE P w) 5 "read_picture" fF fdF ["rows"] (j5 C1)):FnOk P w K mg base CX0 7 f fd ["rows"] (jJ T) := by
 refine F.ok j8 (fun vs H Q E h => ?_) (fun cdv A outer s H vs Q E hr h => ?_)
 · obtain ⟨a,rows,rfl,_⟩ := h
   rfl
 · obtain ⟨a,rows,rfl,hl,sm,hL,q⟩ := h
   refine ⟨_,(zg (zt (i := 1) j8.nd rfl (Or.inl rfl) (xC qC rfl tlist PyProof.Rows.boot_list (za (pv 0) zb)))
     (zg (zt (i := 2) j8.nd rfl (Or.inl rfl) (zF Du.ok (hr.mono (by decide)) rfl Du.bound Du.kp Du.bd .nil zV (za (pv 0) zb)))
     (zg (zU (zu zak (pv 2) jM rfl)
     (zh (zw (yO (zF Rf.ok hr rfl Rf.bound Rf.kp Rf.bd .nil zV (za (pv 1) zb)) (xv (ye (jW hr.units) (pv 1) (pv 0) (zr _))))))
     zO)
     (zg (zt (i := 3) j8.nd rfl (Or.inl rfl) (zF Rp.ok (hr.mono (by decide)) rfl Rp.bound Rp.kp Rp.bd .nil zap (za (pv 1) zb)))
     (zh (zw (yO (zo xA (by rfl) ti PyProof.Rows.boot_isinstance (za (pv 3) (za (x8 rfl ttup PyProof.Rows.boot_tuple) zb))) (yO (ye (jW hr.units) (pv 3) (pv 2) (zr _)) (xv (ye (jW hr.units) (pv 1) (pv 0) (zr _))))))))))),?_⟩
   refine ⟨_,rfl,a,_,rfl,.inl (SqL.of hl),fun lh nh => ?_⟩
   have S1 := zf (o := .lst (txs rows)) nh
   have hh:(upd H lh (.lst (txs rows))) lh = some (.lst (txs rows)) := zd
   have hl1 := S1 _ _ hl
   have hL1 := hL.same S1
   dsimp only [zG]
   generalize upd H lh (.lst (txs rows)) = H1 at S1 hh hl1 hL1
   have nT:∀ {b:Addr} {xs:List V},H1 b = some (.lst xs) -> b ≠ T := fun {b xs} e z => by
     obtain ⟨ps,e2,_⟩ := hL1
     rw [z,e2] at e
     cases e
   refine ⟨_,rfl,a,rows,rfl,hl1,sm,hL1,fun no H2 B2 hL2 => ?_,fun ok pg cs H2 B2 hL2 hP pm st => ?_⟩
   · have hh2 := B2 lh _ (nT hh) hh
     have hl2 := B2 a _ (nT hl1) hl1
     dsimp only [zG]
     refine ⟨_,rfl,rfl,_,rfl,?_⟩
     rw [decide_eq_true rfl]
     refine iteT ?_
     refine ⟨_,rfl,lh,rows,rfl,hh2,sm.n,sm.w,sm.s,no,fun H3 S3 => ?_⟩
     refine ⟨_,rfl,iteT ?_⟩
     exact ⟨_,rfl,_,rfl,lh,a,1,true,rfl,rfl,Qs (SqL.of (S3 _ _ hh2)) (SqL.of (S3 _ _ hl2)),by decide,q _ ((S1.but T).trans (B2.trans (S3.but T))) (hL2.same S3)⟩
   · have hh2 := B2 lh _ (nT hh) hh
     have hl2 := B2 a _ (nT hl1) hl1
     dsimp only [zG]
     refine ⟨_,rfl,rfl,_,rfl,?_⟩
     rw [decide_eq_false (by intro z; cases z)]
     refine iteF ?_
     refine ⟨_,rfl,lh,rows,rfl,hh2,sm.n,sm.w,sm.s,fun _ pg2 cs2 H3 S3 hP3 pm3 st3 => ?_,fun no => absurd ok no⟩
     have Pg := ok.2
     have Tl:z0 cs ((rows.getD 0 []).length:Nat) (rows.length:Nat) := wl Pg.tiles pm
     have ec:cs2 = cs := Xn Tl (pm3.trans pm.symm) st3 st
     subst ec
     have hP2 := hP.same S3
     have hT3:∃ xs,H3 pg2 = some (.tup xs) := by
       obtain ⟨tb,us,e,_⟩ := hP3
       exact ⟨_,e⟩
     obtain ⟨xs,e3⟩ := hT3
     dsimp only [zG]
     refine ⟨_,rfl,_,_,_,_,rfl,rfl,.of (.tup e3),rfl,_,rfl,iteT ?_⟩
     refine ⟨_,rfl,_,rfl,pg2,pg,3,true,rfl,rfl,J0 hP3 hP2,by decide,_,rfl,iteT ?_⟩
     exact ⟨_,rfl,_,rfl,lh,a,1,true,rfl,rfl,Qs (SqL.of (S3 _ _ hh2)) (SqL.of (S3 _ _ hl2)),by decide,q _ ((S1.but T).trans (B2.trans (S3.but T))) (hL2.same S3)⟩
end
end _K4
namespace _Lin
end _Lin
namespace _L2
open PySem PySem.Spec PyProof.Rows PySem.W
theorem wv (a b:List Nat):txt a ++ txt b = txt (a ++ b) := by
 refine Str.ext' ?_
 rw [Str.cps_append]
 simp [txt]
end _L2
namespace _L2
open PySem PySem.Spec PyProof.Rows
end _L2
namespace _Lin
end _Lin
namespace _L2
open PySem PySem.Spec PyProof.Rows PySem.Builtin PySem.Builtin.Str _Lin
end _L2
namespace _L2
open PySem PySem.Spec PyProof.Rows PySem.Builtin PySem.Builtin.Str _Lin
end _L2
namespace _L2
open PySem PySem.Spec PyProof.Rows PySem.Builtin PySem.Builtin.Str _Lin
noncomputable def cutN (w:List Nat) (lo hi:Option Int):List Nat := (w.drop (_HT.sIx w.length 0 lo)).take (_HT.sIx w.length w.length hi - _HT.sIx w.length 0 lo)
noncomputable def Wj (n:Nat) (d:Int):Option Int -> Int
 | none => d
 | some i => Max.max (0:Int) (Min.min (if i < 0 then i + (n:Int) else i) (n:Int))
theorem XD (n d:Nat) (v:Option Int):Wj n (d:Int) v = ((_HT.sIx n d v:Nat):Int) := by
 cases v with
 | none => rfl
 | some i =>
   show Max.max (0:Int) (Min.min (if i < 0 then i + (n:Int) else i) (n:Int)) = (((if i < 0 then (i + (n:Int)).toNat else Min.min i.toNat n):Nat):Int)
   by_cases c:i < 0
   · rw [if_pos c,if_pos c]
     omega
   · rw [if_neg c,if_neg c]
     omega
theorem Qu (n:Nat) (lo hi:Option Int):strSliceIndices lo hi 1 n = (List.range (_HT.sIx n n hi - _HT.sIx n 0 lo)).map fun k => _HT.sIx n 0 lo + k := by
 have e1 := XD n 0 lo
 have e2 := XD n n hi
 have key:strSliceIndices lo hi 1 n = sliceRange (Wj n ((0:Nat):Int) lo) (Wj n (n:Int) hi) 1 := by
   cases lo <;> cases hi <;> rfl
 rw [key,e1,e2]
 generalize _HT.sIx n 0 lo = a
 generalize _HT.sIx n n hi = b
 unfold sliceRange
 simp only [show ((1:Int) > 0) = True from by simp,if_true]
 have ec:(if (a:Int) < (b:Int) then ((b:Int) - a + 1 - 1) / 1 else 0).toNat = b - a := by
   split
   · rw [Int.ediv_one]
     omega
   · show 0 = b - a
     omega
 rw [ec]
 refine List.map_congr_left fun k _ => ?_
 omega
theorem zaR (n:Nat) (lo:Option Int):_HT.sIx n 0 lo <= n := by
 cases lo with
 | none => exact Nat.zero_le _
 | some i =>
   show (if i < 0 then (i + (n:Int)).toNat else min i.toNat n) <= n
   split <;> omega
theorem J4 (n:Nat) (hi:Option Int):_HT.sIx n n hi <= n := by
 cases hi with
 | none => exact Nat.le_refl _
 | some i =>
   show (if i < 0 then (i + (n:Int)).toNat else min i.toNat n) <= n
   split <;> omega
theorem xB (w:List Nat) (lo hi:Option Int):(cutN w lo hi).length <= w.length := by
 unfold cutN
 rw [List.length_take,List.length_drop]
 omega
theorem Qv (w:List Nat) (lo hi:Option Int):(if ((1:Int) == 1 && (strSliceIndices lo hi 1 (txt w).length).length == (txt w).length) = true then txt w else ⟨((strSliceIndices lo hi 1 (txt w).length).filterMap ((txt w).cps[·]?)).toArray⟩) = txt (cutN w lo hi) := by
 rw [zA,Qu]
 have a1 := zaR w.length lo
 have b1 := J4 w.length hi
 have pk := StrLaws.picks w (_HT.sIx w.length w.length hi - _HT.sIx w.length 0 lo) (_HT.sIx w.length 0 lo) (by omega)
 have e:(((List.range (_HT.sIx w.length w.length hi - _HT.sIx w.length 0 lo)).map fun k => _HT.sIx w.length 0 lo + k).filterMap ((txt w).cps[·]?)) = cutN w lo hi := by
   unfold cutN
   rw [<- pk]
   refine congrArg (fun f => List.filterMap f _) (funext fun i => ?_)
   show w.toArray[i]? = w[i]?
   simp
 rw [e]
 split
 · rename_i c
   rw [List.length_map,List.length_range] at c
   have c:_HT.sIx w.length w.length hi - _HT.sIx w.length 0 lo = w.length := by simpa using c
   unfold cutN
   have z:_HT.sIx w.length 0 lo = 0 \/ w.length = 0 := by omega
   rw [c]
   rcases z with z | z
   · rw [z,List.drop_zero,List.take_length]
   · rw [List.length_eq_zero_iff.mp z]
     simp
 · rfl
section
variable {X:Cx}
noncomputable def rSlS:V -> Option Int -> Option Int -> Hp -> VK -> Prop := fun x lo hi H Q => ∃ w:List Nat,x = .str (txt w) /\ w.length <= 1000000 /\ Q (.str (txt (cutN w lo hi))) H
theorem wI:SlR X rSlS := by
 intro pins s σ H x v vl vu lo hi sl Q I rx hs pl pu h
 obtain ⟨w,rfl,hl,q⟩ := h
 obtain ⟨t,rfl⟩ := rx
 refine ⟨"str",_,F.slot_str_getitem.lookup,typeIs_str _ _ _,?_⟩
 have big:(1000002:Nat) <= sizeLine := by decide
 have fin:∀ (l u:Option (Int × Tok)),l.map (·.1) = lo -> u.map (·.1) = hi -> (sliceMade (txt w) t l u none).post (EP X pins σ Q) s := fun l u e1 e2 => by
   unfold sliceMade slicePicked
   rw [e1,e2]
   refine post_val_or_str ?_
   have e := Qv w lo hi
   refine ⟨?_,fun t' k => ?_⟩
   · rw [show (if ((Option.map (fun x:Int × Tok => x.1) none).getD 1 == 1 && (strSliceIndices lo hi ((Option.map (fun x:Int × Tok => x.1) none).getD 1) (txt w).length).length == (txt w).length) = true then txt w else ⟨((strSliceIndices lo hi ((Option.map (fun x:Int × Tok => x.1) none).getD 1) (txt w).length).filterMap ((txt w).cps[·]?)).toArray⟩) = txt (cutN w lo hi) from e,zA]
     have := xB w lo hi
     omega
   · rw [show (if ((Option.map (fun x:Int × Tok => x.1) none).getD 1 == 1 && (strSliceIndices lo hi ((Option.map (fun x:Int × Tok => x.1) none).getD 1) (txt w).length).length == (txt w).length) = true then txt w else ⟨((strSliceIndices lo hi ((Option.map (fun x:Int × Tok => x.1) none).getD 1) (txt w).length).filterMap ((txt w).cps[·]?)).toArray⟩) = txt (cutN w lo hi) from e]
     exact ⟨.str (txt (cutN w lo hi)),H,I.tok k,⟨t',rfl⟩,q⟩
 obtain ⟨o,ho,hc,hd⟩ := hs
 cases pl with
 | none =>
   cases pu with
   | none => exact wpAny_getItem_str_slice (l := none) (u := none) (st := none) ⟨o,ho,hc,hd⟩ rfl (fin none none rfl rfl)
   | int j tj => exact wpAny_getItem_str_slice (l := none) (u := some (j,tj)) (st := none) ⟨o,ho,hc,hd⟩ rfl (fin none (some (j,tj)) rfl rfl)
 | int i ti =>
   cases pu with
   | none => exact wpAny_getItem_str_slice (l := some (i,ti)) (u := none) (st := none) ⟨o,ho,hc,hd⟩ rfl (fin (some (i,ti)) none rfl rfl)
   | int j tj => exact wpAny_getItem_str_slice (l := some (i,ti)) (u := some (j,tj)) (st := none) ⟨o,ho,hc,hd⟩ rfl (fin (some (i,ti)) (some (j,tj)) rfl rfl)
end
end _L2
namespace _K4
open PySem _L2 _Til PySem.W _Pic
theorem eq_nil {K:PySem.W.Frag} {H:Hp} {a c:Addr} {rows:List (List Nat)} (h1:SqL K H a (txs rows)) (h2:SqL K H c []):EqR K H 1 (.ref a) (.ref c) (decide (rows = [])) := by
 cases rows with
 | nil =>
   have := EqR.lsts (n := 0) (e := fun _ => true) h1 h2 rfl fun j hj => absurd hj (Nat.not_lt_zero _)
   exact this
 | cons r rs => exact EqR.lens h1 h2 (by simp [txs])
theorem Z0 {T:Addr} {H H':Hp} {ps:Array Value} (hT:H T = some (.tbl ps)) (S:But T H H'):∀ {vs:List V} {bs:List Bx},zm H vs bs -> zm H' vs bs
 | _,_,.nil => .nil
 | _,_,.cons h r => by
   obtain ⟨p,rfl,hp⟩ := h
   exact .cons ⟨p,rfl,S _ _ (y9 hp hT (by intro z; cases z)) hp⟩ (Z0 hT S r)
theorem Z1 {lb:Addr} {xs ys:List V} {H:Hp} (hT:H lb = some (.lst xs)):∀ {vs:List V} {bs:List Bx},zm H vs bs -> zm (upd H lb (.lst ys)) vs bs
 | _,_,.nil => .nil
 | _,_,.cons h r => by
   obtain ⟨p,rfl,hp⟩ := h
   exact .cons ⟨p,rfl,by rw [zq (y9 hp hT (by intro z; cases z))]; exact hp⟩ (Z1 hT r)
theorem Jc (w:List Nat) (l n:Nat):cutN w (some (l:Int)) (some ((l:Int) + (n:Nat))) = (w.drop l).take n := by
 unfold cutN
 rw [<- Int.natCast_add,_HT.qW,_HT.qW]
 by_cases h:l <= w.length
 · rw [Nat.min_eq_left h]
   by_cases h2:l + n <= w.length
   · rw [Nat.min_eq_left h2,show l + n - l = n by omega]
   · rw [Nat.min_eq_right (by omega),List.take_of_length_le (by rw [List.length_drop]; omega),List.take_of_length_le (by rw [List.length_drop]; omega)]
 · have h1:w.drop l = [] := List.drop_eq_nil_of_le (by omega)
   have h2:w.drop (min l w.length) = [] := List.drop_eq_nil_of_le (by omega)
   rw [h1,h2,List.take_nil,List.take_nil]
theorem Qw {p:List Nat -> Bool} {rows:List (List Nat)} {i:Nat} {r:List Nat} (h:rows[i]? = some r):(rows.take (i + 1)).filter p = if p r = true then (rows.take i).filter p ++ [r] else (rows.take i).filter p := by
 rw [List.take_succ,h,List.filter_append]
 by_cases e:p r = true
 · simp [e]
 · simp [e]
section
variable {P:Program} {w:World} {K:PySem.W.Frag} {mg:Str -> Option Value} {base:Heap}
theorem wN:zC ["rows","whole","boxes","sign","ys","y","left","right"] ["rows"] (zl sDue) := ⟨rfl,rfl,rfl,by decide +kernel,rfl,by decide +kernel,by decide +kernel⟩
theorem zaS {f c T:Addr} {fd:FuncData} (F:Fun K "_law_due" "_law_due" sDue f fd) (hcode:fd.code = .ref c) (C:PySem.W.CodeHd base c T) (hBM:BMain mg base) (ts:mg "sorted" = none) (tset:mg "set" = none) (tr:mg "range" = none) (tl:mg "len" = none) (ttup:mg "tuple" = none):FnOk P w K mg base CX0 4 f fd ["rows"] (Wg T) := by
 refine F.okC wN (fun vs H Q E h => ?_) (fun A outer s H vs Q E hr h => ?_)
 · obtain ⟨a,rows,rfl,_⟩ := h
   rfl
 · obtain ⟨a,rows,rfl,hl,sm,hL,qN,qP⟩ := h
   refine ⟨_,(zg (zU (PW.pt (xy (zu (jW hr.units) (pv 0) (zX zb) (zr _)) (xy (zu yY (zn zv (pv 0) ze (fun _ _ => rfl)) zP (zr _)) (xh (zu (zaB hr.units) (yW (Nc := ["row","rows"]) (ix := [none,some 0]) rfl rfl (by refine' yo ?zz; case zz => exact (pv 0)) (fun _ _ _ _ _ => (zp (i := 0) (by show (["row","rows"]:List Str).Nodup; decide +kernel) rfl (Or.inl rfl))) (fun _ _ _ _ _ => (Zl (zu Z7 (zo yd (by rfl) tl PySem.boot_len (za (pv 0) zb)) (zo yd (by rfl) tl PySem.boot_len (za (zn (xP (K := K) rfl) (pv 1) ze (fun _ _ => rfl)) zb)) (zr _)))) (fun _ _ _ _ _ => (pv 0))) (zX zb) (zr _))))))
     (zh (zw jM))
     zO)
     (zg (zt (i := 1) wN.nd rfl (Or.inl rfl) (xc PySem.F.plainAttrs_str PySem.F.slot_str_join PySem.F.type_str_join qq zP (by exact (za (pv 0) zb))))
     (zg (zt (i := 2) wN.nd rfl (Or.inl rfl) (zX zb))
     (zg (yF PassesOwn.never rfl (yo (jx rfl ts rfl tset rfl (pv 1))) (zp (i := 3) wN.nd rfl (Or.inr rfl))
     (zg (jk (i := 4) (Nc := ["y","sign","rows"]) (ix := [none,some 3,some 0]) wN.nd rfl (Or.inl rfl) rfl rfl (by exact (yX rfl tr (za (zo zI (by rfl) tl PySem.boot_len (za (pv 0) zb)) zb))) (fun _ _ _ _ _ => (zp (i := 0) (by show (["y","sign","rows"]:List Str).Nodup; decide +kernel) rfl (Or.inl rfl))) (fun _ _ _ _ _ => (Zl (zu W8 (pv 1) (zn (xP (K := K) rfl) (pv 2) (pv 0) (fun _ _ => rfl)) rfl))) (fun _ _ _ _ _ => (pv 0)))
       (zg (zt (i := 6) wN.nd rfl (Or.inl rfl) (xc PySem.F.plainAttrs_str PySem.F.slot_str_index PySem.F.type_str_index JL (zn zv (pv 0) (zn zv (pv 4) ze (fun _ _ => rfl)) (fun _ _ => rfl)) (za (pv 3) zb)))
       (zg (zt (i := 7) wN.nd rfl (Or.inl rfl) (zk zQ (pv 6) (xc PySem.F.plainAttrs_str PySem.F.slot_str_count PySem.F.type_str_count XA (zn zv (pv 0) (zn zv (pv 4) ze (fun _ _ => rfl)) (fun _ _ => rfl)) (za (pv 3) zb))))
       (zg (yF PassesOwn.never rfl (qz rfl tr (za (zn zv (pv 4) ze (fun _ _ => rfl)) (za (zk zQ (zn zv (pv 4) (qU wQ ze) (fun _ _ => rfl)) ze) zb))) (zp (i := 5) wN.nd rfl (Or.inl rfl))
       (zh (zU (PW.pt (xy (zu Z7 (xc PySem.F.plainAttrs_str PySem.F.slot_str_count PySem.F.type_str_count XA (zn zv (pv 0) (pv 5) (fun _ _ => rfl)) (za (pv 3) zb)) (zk z8 (pv 7) (pv 6)) (zr _)) (xh (zu Z7 (yg wI (zn zv (pv 0) (pv 5) (fun _ _ => rfl)) (yc (pv 6)) (yc (pv 7))) (zk JK (pv 3) (zk z8 (pv 7) (pv 6))) (zr _)))))
         (zh (zw jM))
         zO)))
       (zh (xl (xc PySem.F.plainAttrs_list PySem.F.slot_list_append PySem.F.type_list_append xD (pv 2) (za (zS (za (pv 6) (za (zn zv (pv 4) ze (fun _ _ => rfl)) (za (pv 7) (za (zk zQ (zn zv (pv 4) (qU wQ ze) (fun _ _ => rfl)) ze) zb))))) zb)))))))))
     (zg (zU (zu we (zo zI (by rfl) tl PySem.boot_len (za (pv 2) zb)) ze (zr _))
     (zh (zw jM))
     zO)
     (zh (zw (zS (za (zo yd (by rfl) tl PySem.boot_len (za (zn zv (pv 0) ze (fun _ _ => rfl)) zb)) (za (zo zI (by rfl) tl PySem.boot_len (za (pv 0) zb)) (za (xC qu rfl ttup PyProof.Rows.boot_tuple (za (by refine Jb (qual := lamQ) rfl ts (pv 2) (JZ (c := c) (P := T) hcode C hBM rfl rfl) (hr.mono (show 3 <= 3 by decide)) ?s1 ?s2 ?s3; (case s1 => exact ⟨rfl,rfl,rfl,by decide +kernel,rfl,by decide +kernel,by decide +kernel⟩); (case s2 => exact fun _ _ _ _ => rfl); (case s3 => exact fun _ _ _ _ _ _ => zS (za (zn zK (pv 0) ze (fun _ _ => rfl)) (za (zn zK (pv 0) ze (fun _ _ => rfl)) zb)))) zb)) zb))))))))))),?_⟩
   have lr:(txs rows).length = rows.length := List.length_map _
   have nT:∀ {H':Hp} {b:Addr} {o:HO},yJ T lamQ xK H' -> H' b = some o -> (∀ ps,o ≠ .tbl ps) -> b ≠ T := fun {H' b o} hL' e no z => by
     obtain ⟨ps,e2,_⟩ := hL'
     rw [z,e2] at e
     cases e
     exact no _ rfl
   have stop:∀ {H':Hp},¬ yf rows -> Same H H' -> Q .non H' := fun no S => qN no _ (S.but T) (hL.same S)
   refine ⟨_,rfl,by show 0 <= sizeLine; decide,fun l0 n0 => ?_⟩
   have S0 := zf (o := .lst []) n0
   refine ⟨a,l0,1,decide (rows = []),rfl,rfl,eq_nil (SqL.of (S0 _ _ hl)) (SqL.of zd),by decide,_,rfl,?_⟩
   generalize upd H l0 (.lst []) = H0 at S0
   refine ite2 (fun c1 => ?_) (fun c1 => ?_)
   · refine iteT ?_
     refine stop (fun ok => ?_) S0
     have := ok.1
     rw [of_decide_eq_true c1] at this
     cases this
   have ne:rows ≠ [] := fun z => c1 (decide_eq_true z)
   have r0:(txs rows)[0]? = some (.str (txt (rows.getD 0 []))) := by
     cases rows with
     | nil => exact absurd rfl ne
     | cons r rs => rfl
   have m0:rows.getD 0 [] ∈ rows := by
     cases rows with
     | nil => exact absurd rfl ne
     | cons r rs => exact List.mem_cons_self
   have w0 := sm.w _ m0
   have l0':(txt (rows.getD 0 [])).length <= sizeLine := by rw [zA]; exact Nat.le_trans w0 (by decide)
   refine ⟨_,rfl,a,_,0,_,rfl,rfl,SqL.of (S0 _ _ hl),zH r0,rfl,_,rfl,?_⟩
   have eE:decide (V.str (txt (rows.getD 0 [])) = V.str "") = decide (rows.getD 0 [] = []) := by
     rw [decide_eq_decide,show ("" : Str) = txt [] from rfl]
     exact ⟨fun z => by injection z with z; exact Zo z,fun z => by rw [z]⟩
   rw [eE]
   refine ite2 (fun c2 => ?_) (fun c2 => ?_)
   · refine iteT ?_
     refine stop (fun ok => ?_) S0
     have := ok.2.w
     rw [of_decide_eq_true c2] at this
     exact absurd this (by decide)
   have ne0:rows.getD 0 [] ≠ [] := fun z => c2 (decide_eq_true z)
   have hl0 := S0 _ _ hl
   refine ⟨_,rfl,a,rfl,⟨_,SqL.of hl0⟩,yI (K := K) (a := a) (xs := txs rows) (fun i ys σ H' => ys = txs ((rows.take i).filter fun r => decide (r.length ≠ (rows.getD 0 []).length)) /\ Same H H' /\ ∃ o,σ = [o,some (.ref a)])
     ⟨rfl,S0,none,rfl⟩ (fun i ys σ H' hi h9 => by obtain ⟨e,S,_⟩ := h9; exact (⟨by
       rw [e]
       unfold txs
       rw [List.length_map]
       have := List.length_filter_le (fun r:List Nat => decide (r.length ≠ (rows.getD 0 []).length)) (rows.take i)
       rw [List.length_take] at this
       have := sm.n
       exact Nat.le_trans (show _ <= 1000 by omega) (by decide),SqL.of (S _ _ hl)⟩)) ?_ ?_⟩
   case refine_2 =>
     rintro i x ys σ H1 hx ⟨e,S1,o,rfl⟩
     subst e
     obtain ⟨r,er,rfl⟩ := qS hx
     have l1:(txt r).length <= sizeLine := by rw [zA]; exact Nat.le_trans (sm.w r (List.mem_of_getElem? er)) (by decide)
     dsimp only [zG]
     refine ⟨_,rfl,_,rfl,l1,_,rfl,a,_,0,_,rfl,rfl,SqL.of (S1 _ _ hl),zH r0,_,rfl,l0',rfl,_,rfl,?_⟩
     have eD:(!decide (V.int ((txt r).length:Int) = V.int ((txt (rows.getD 0 [])).length:Int))) = decide (r.length ≠ (rows.getD 0 []).length) := by
       rw [<- decide_not,decide_eq_decide,zA,zA]
       exact ⟨fun z w => z (by rw [w]),fun z w => z (by injection w with w; omega)⟩
     rw [eD,Qw er]
     refine ite2 (fun c3 => ?_) (fun c3 => ?_)
     · rw [if_pos c3]
       refine ⟨_,rfl,?_,S1,_,rfl⟩
       unfold txs
       rw [List.map_append]
       rfl
     · rw [if_neg c3]
       exact ⟨rfl,S1,_,rfl⟩
   rintro ys σ H1 ⟨e,S1,_⟩ lc nc
   rw [lr,List.take_length] at e
   subst e
   generalize hbad:(rows.filter fun r => decide (r.length ≠ (rows.getD 0 []).length)) = bad at nc ⊢
   have Sc := zf (o := .lst (txs bad)) nc
   refine ⟨by show 0 <= sizeLine; decide,fun le nle => ?_⟩
   have Se := zf (o := .lst []) nle
   refine ⟨lc,le,1,decide (bad = []),rfl,rfl,eq_nil (SqL.of (Se _ _ zd)) (SqL.of zd),by decide,_,rfl,?_⟩
   have S2 := S1.trans (Sc.trans Se)
   generalize upd (upd H1 lc (.lst (txs bad))) le (.lst []) = H2 at S2
   have evI:xf rows = true ↔ bad = [] := by
     unfold xf
     rw [decide_eq_true ne,Bool.true_and,List.all_eq_true,<- hbad,List.filter_eq_nil_iff]
     constructor
     · intro h r hr z
       exact of_decide_eq_true z (of_decide_eq_true (h r hr))
     · intro h r hr
       refine decide_eq_true ?_
       by_cases e:r.length = (rows.getD 0 []).length
       · exact e
       · exact absurd (decide_eq_true e) (h r hr)
   dsimp only [if_true]
   refine ite2 (fun c3 => ?_) (fun c3 => ?_)
   · refine stop (fun ok => ?_) S2
     rw [decide_eq_true (evI.mp ok.1)] at c3
     cases c3
   have bE:bad = [] := by
     by_cases e:bad = []
     · exact e
     · exact absurd (by rw [decide_eq_false e]; rfl) c3
   have ev := evI.mpr bE
   clear evI c3 bE hbad
   have hev:∀ r ∈ rows,r.length = (rows.getD 0 []).length := fun r hr' => by
     have ev := ev
     unfold xf at ev
     rw [Bool.and_eq_true,List.all_eq_true] at ev
     exact of_decide_eq_true (ev.2 r hr')
   have sl:(rows.map List.length).sum <= 1000000 := by
     have:(rows.map List.length).sum <= rows.length * 1000 := jp sm.w
     have:rows.length * 1000 <= 1000 * 1000 := Nat.mul_le_mul_right _ sm.n
     omega
   refine ⟨rfl,_,rfl,a,rows,rfl,rfl,SqL.of (S2 _ _ hl),sl,?_⟩
   dsimp only [zG]
   refine xG ⟨by show 0 <= sizeLine; decide,fun lb nb => ?_⟩
   have S3 := S2.trans (zf (o := .lst []) nb)
   have flb := S2.free nb
   have hb0:(upd H2 lb (.lst [])) lb = some (.lst []) := zd
   generalize upd H2 lb (.lst []) = H3 at S3 hb0
   refine ⟨_,rfl,rows.flatten,rfl,sm.s,fun D ms hD pm => ?_⟩
   have S4 := S3.trans (zf (o := .lst (ms.map fun c => V.str (sgn c))) hD)
   have hD4:(upd H3 D (.lst (ms.map fun c => V.str (sgn c)))) D = some (.lst (ms.map fun c => V.str (sgn c))) := zd
   have hb4 := (zf (o := .lst (ms.map fun c => V.str (sgn c))) hD) _ _ hb0
   have nDb:D ≠ lb := fun z => by rw [z,hb0] at hD; cases hD
   have fD := S3.free hD
   generalize upd H3 D (.lst (ms.map fun c => V.str (sgn c))) = H4 at S4 hD4 hb4
   have W1:1 <= (rows.getD 0 []).length := List.length_pos_iff.mpr ne0
   have G1:1 <= rows.length := List.length_pos_iff.mpr ne
   have hS:∀ c,c ∈ dd rows.flatten ↔ ∃ x y:Nat,(rw rows y)[x]? = some c := fun c => by
     rw [(xH rows.flatten).2.1 c]
     constructor
     · intro h
       obtain ⟨r,hr1,hr2⟩ := List.mem_flatten.mp h
       obtain ⟨y,hy⟩ := List.getElem?_of_mem hr1
       obtain ⟨x,hx⟩ := List.getElem?_of_mem hr2
       refine ⟨x,y,?_⟩
       unfold rw
       rw [List.getD_eq_getElem?_getD,hy]
       exact hx
     · rintro ⟨x,y,h⟩
       exact List.mem_flatten.mpr ⟨_,wH (wL h),List.mem_of_getElem? h⟩
   have pic:yf rows ↔ (dd rows.flatten).length <= 24 /\ ∀ c ∈ dd rows.flatten,Ya rows c := by
     have := YR hev W1 G1 (xH rows.flatten).1 hS
     exact ⟨fun ok => this.mp ok.2,fun z => ⟨ev,this.mpr z⟩⟩
   have lM:(ms.map fun c => V.str (sgn c)).length = ms.length := List.length_map _
   have l64:ms.length < 64 := by rw [pm.length_eq]; exact sm.s
   refine ⟨D,rfl,⟨_,SqL.of hD4⟩,wx (K := K) (a := D) (xs := ms.map fun c => V.str (sgn c)) (fun i σ H' => ∃ (us:List V) (o3 o4 o5 o6 o7:Option V),σ = [some (.ref a),some (.str (txt rows.flatten)),some (.ref lb),o3,o4,o5,o6,o7] /\ Same H H' /\ H' lb = some (.lst us) /\ H' D = some (.lst (ms.map fun c => V.str (sgn c))) /\ zm H' us ((ms.take i).map (bxOf rows)) /\ ∀ c ∈ ms.take i,Ya rows c)
     ⟨[],_,_,_,_,_,rfl,S4,hb4,hD4,.nil,fun c hc => absurd hc List.not_mem_nil⟩ (fun i σ H' hi h9 => by obtain ⟨_,_,_,_,_,_,_,_,_,hD',_⟩ := h9; exact (SqL.of hD')) ?_ ?_⟩
   · rintro i x σ H5 hx ⟨us,o3,o4,o5,o6,o7,rfl,S5,hb5,hD5,hB5,F5⟩
     rw [List.getElem?_map] at hx
     obtain ⟨c,em,rfl⟩ := Option.map_eq_some_iff.mp hx
     have cS:c ∈ dd rows.flatten := pm.mem_iff.mp (List.mem_of_getElem? em)
     obtain ⟨x0,y0,hxy⟩ := (hS c).mp cS
     have hl5 := S5 _ _ hl
     dsimp only [zG]
     refine ⟨_,rfl,a,_,rfl,.inl (SqL.of hl5),_,rfl,by have := sm.n; omega,by have := sm.n; omega,?_⟩
     rw [Int.toNat_natCast]
     have rowAt:∀ {y:Nat},y < rows.length -> (txs rows)[y]? = some (.str (txt (rw rows y))) := fun {y} hy => by
       unfold txs rw
       rw [List.getElem?_map,List.getElem?_eq_getElem hy,List.getD_eq_getElem?_getD,List.getElem?_eq_getElem hy]
       rfl
     refine ZQ (lo := 0) (n := (txs rows).length) (fun j ys σ H' => ys = (hts rows c j).map (fun y => V.int (y:Nat)) /\ H' = H5 /\ ∃ o,σ = [o,some (.str (txt [c])),some (.ref a)])
       ⟨rfl,rfl,none,rfl⟩ (fun j ys σ H' hj h9 => by obtain ⟨e,_⟩ := h9; exact (by rw [e,List.length_map]; exact Nat.le_trans (Nat.le_trans (Zr rows c j) (show j <= 1000 by have := sm.n; omega)) (by decide))) ?_ ?_
     case refine_2 =>
       rintro j ys σ H' hj ⟨rfl,rfl,o,rfl⟩
       dsimp only [zG]
       refine ⟨_,rfl,_,rfl,_,rfl,a,_,_,_,rfl,rfl,SqL.of hl5,by rw [Int.zero_add]; exact zH (rowAt (by omega)),rw rows j,c,rfl,rfl,_,rfl,?_⟩
       rw [YK]
       refine ite2 (fun c1 => ?_) (fun c1 => ?_)
       · have c1:c ∈ rw rows j := of_decide_eq_true c1
         rw [if_pos c1]
         refine ⟨_,rfl,?_,rfl,_,rfl⟩
         rw [List.map_append,Int.zero_add]
         rfl
       · have c1:c ∉ rw rows j := fun z => c1 (decide_eq_true z)
         rw [if_neg c1]
         exact ⟨rfl,rfl,_,rfl⟩
     rintro ys σ H' ⟨e,rfl,_⟩ lh nh
     rw [lr] at e
     subst e
     have Sh := zf (o := .lst ((hts rows c rows.length).map fun y => V.int (y:Nat))) nh
     have hh:(upd H' lh (.lst ((hts rows c rows.length).map fun y => V.int (y:Nat)))) lh = some (.lst ((hts rows c rows.length).map fun y => V.int (y:Nat))) := zd
     have S6 := S5.trans Sh
     have hb6 := Sh _ _ hb5
     have hD6 := Sh _ _ hD5
     have hB6 := hB5.same Sh
     generalize upd H' lh (.lst ((hts rows c rows.length).map fun y => V.int (y:Nat))) = H6 at S6 hh hb6 hD6 hB6
     have hl6 := S6 _ _ hl
     have pw := YL rows c rows.length
     have hm:∀ y,y ∈ hts rows c rows.length ↔ c ∈ rw rows y := fun y => wu
     have nn:y0 ∈ hts rows c rows.length := wu.mpr (List.mem_of_getElem? hxy)
     generalize hts rows c rows.length = hs at hh pw hm nn
     have pos:0 < hs.length := List.length_pos_of_mem nn
     obtain ⟨t,ht⟩ : ∃ t,hs[0]? = some t := ⟨_,List.getElem?_eq_getElem pos⟩
     obtain ⟨e,he⟩ : ∃ e,hs[hs.length - 1]? = some e := ⟨_,List.getElem?_eq_getElem (by omega)⟩
     obtain ⟨fi,Fi⟩ := firsts rows c
     obtain ⟨la,La⟩ := lasts rows c
     have a0:atI (hs.map fun y => V.int (y:Nat)) 0 = some (.int (t:Nat)) := zH (j := 0) (by rw [List.getElem?_map,ht]; rfl)
     have a1:atI (hs.map fun y => V.int (y:Nat)) (-1) = some (.int (e:Nat)) := by
       have cut:hs = hs.take (hs.length - 1) ++ [e] := by
         have := List.take_succ (l := hs) (i := hs.length - 1)
         rw [he,show hs.length - 1 + 1 = hs.length by omega,List.take_length] at this
         exact this
       rw [cut,List.map_append]
       exact jA _ _
     have ct:c ∈ rw rows t := (hm t).mp (List.mem_of_getElem? ht)
     have tl':t < rows.length := wL (Fi t ct).1
     have cE:c ∈ rw rows e := (hm e).mp (List.mem_of_getElem? he)
     have el:e < rows.length := wL (Fi e cE).1
     refine ⟨_,rfl,_,rfl,lh,_,_,_,rfl,rfl,SqL.of hh,a0,a,_,t,_,rfl,rfl,SqL.of hl6,zH (rowAt tl'),rfl,_,rfl,rw rows t,c,fi t,rfl,rfl,(Fi t ct).1,(Fi t ct).2,?_⟩
     dsimp only [zG]
     refine ⟨_,rfl,_,rfl,_,rfl,lh,_,_,_,rfl,rfl,SqL.of hh,a0,a,_,t,_,rfl,rfl,SqL.of hl6,zH (rowAt tl'),rfl,_,rfl,rw rows t,c,rfl,rfl,_,_,rfl,rfl,?_⟩
     dsimp only [zG]
     have te:t <= e := by
       obtain ⟨b1,v1⟩ := List.getElem?_eq_some_iff.mp ht
       obtain ⟨b2,v2⟩ := List.getElem?_eq_some_iff.mp he
       by_cases q:hs.length - 1 = 0
       · rw [q,ht] at he
         cases he
         exact Nat.le_refl _
       · have := List.pairwise_iff_getElem.mp pw 0 (hs.length - 1) b1 b2 (by omega)
         rw [v1,v2] at this
         omega
     have np:0 < (rw rows t).count c := List.count_pos_iff.mpr ct
     have hne:hs ≠ [] := fun z => by rw [z] at nn; cases nn
     obtain ⟨mm,mm1,mm2⟩ := YO fi hne
     obtain ⟨zz,zz1,zz2⟩ := YQ la hne
     have R2:Rd rows c (fi mm) t (la zz + 1) (e + 1) := X4 hm pw ht he Fi La ⟨mm,mm1,rfl⟩ mm2 ⟨zz,zz1,rfl⟩ zz2
     have hin:∀ x y:Nat,(rw rows y)[x]? = some c -> t <= y /\ y < e + 1 := fun x y h => by
       have := R2.all x y h
       omega
     have dueIff:Ya rows c ↔ Due rows c (fi t) t ((rw rows t).count c) (e + 1) := by
       constructor
       · rintro ⟨l,t',r,b,R,Fu⟩
         obtain ⟨_,e2,_,e4⟩ := R.uniq R2
         subst e2 e4
         have D := Xi R Fu
         have d0 := D t' (Nat.le_refl _) (by omega)
         have rI := jn.mp d0
         have h1 := (rI.2 _).mp (Fi t' ct).1
         have h2:¬ l < fi t' := fun q => (Fi t' ct).2 l q ((rI.2 l).mpr (by omega))
         have e5:fi t' = l := by omega
         rw [e5,d0.1]
         exact D
       · intro D
         obtain ⟨R,Fu⟩ := jv D np (by omega) hin
         exact ⟨_,_,_,_,R,Fu⟩
     have no:¬ Due rows c (fi t) t ((rw rows t).count c) (e + 1) -> ¬ yf rows := fun nd ok => nd (dueIff.mp ((pic.mp ok).2 c cS))
     have cL:(rw rows t).count c <= 1000 := Nat.le_trans List.count_le_length (sm.w _ (wH tl'))
     have fL:fi t < 1000 := Nat.lt_of_lt_of_le (List.getElem?_eq_some_iff.mp (Fi t ct).1).1 (sm.w _ (wH tl'))
     have sn := sm.n
     refine ⟨_,rfl,lh,_,_,_,rfl,rfl,SqL.of hh,a0,_,rfl,_,rfl,lh,_,_,_,rfl,rfl,SqL.of hh,a1,_,_,rfl,rfl,(t:Int),(e:Int) + 1,rfl,⟨by omega,by omega,by omega,by omega⟩,?_⟩
     have eS:sgn c = txt [c] := rfl
     refine yP (lo := (t:Int)) (n := ((e:Int) + 1 - (t:Int)).toNat) (fun j σ H' => ∃ o5,σ = [some (.ref a),some (.str (txt rows.flatten)),some (.ref lb),some (.str (txt [c])),some (.ref lh),o5,some (.int (fi t:Nat)),some (.int ((fi t:Nat) + ((rw rows t).count c:Nat)))] /\ H' = H6 /\ Due rows c (fi t) t ((rw rows t).count c) (t + j))
       ⟨_,rfl,rfl,fun y h1 h2 => by omega⟩ ?_ ?_
     · rintro j σ H' hj ⟨o5,rfl,rfl,Dj⟩
       have yl:t + j < rows.length := by omega
       have yA:atI (txs rows) ((t:Int) + (j:Int)) = some (.str (txt (rw rows (t + j)))) := by
         rw [<- Int.natCast_add]
         exact zH (rowAt yl)
       have rl := sm.w _ (wH yl)
       dsimp only [zG]
       refine ⟨_,rfl,_,rfl,a,_,_,_,rfl,rfl,SqL.of hl6,yA,rfl,_,rfl,rw rows (t + j),c,rfl,rfl,_,rfl,_,rfl,_,_,rfl,rfl,rfl,_,rfl,?_⟩
       refine ite2 (fun c1 => ?_) (fun c1 => ?_)
       · refine iteT ?_
         refine stop (no fun D' => ?_) S6
         have := (D' (t + j) (by omega) (by omega)).1
         rw [this,decide_eq_true (by congr 1; omega)] at c1
         cases c1
       have c1:(rw rows (t + j)).count c = (rw rows t).count c := by
         by_cases q:V.int (((rw rows (t + j)).count c:Nat):Int) = V.int ((fi t:Nat) + ((rw rows t).count c:Nat) - (fi t:Nat))
         · injection q with q
           omega
         · exact absurd (by rw [decide_eq_false q]; rfl) c1
       refine ⟨_,rfl,_,rfl,a,_,_,_,rfl,rfl,SqL.of hl6,yA,_,rfl,_,rfl,_,rfl,_,rfl,rw rows (t + j),rfl,by omega,_,rfl,_,rfl,_,rfl,_,_,rfl,rfl,c,_,rfl,rfl,by omega,by omega,rfl,_,rfl,?_⟩
       have eC:(!decide (V.str (txt (cutN (rw rows (t + j)) (some (fi t:Int)) (some ((fi t:Int) + ((rw rows t).count c:Nat))))) = V.str (txt (List.replicate ((fi t:Int) + ((rw rows t).count c:Nat) - (fi t:Int)).toNat c)))) = !decide (((rw rows (t + j)).drop (fi t)).take ((rw rows t).count c) = List.replicate ((rw rows t).count c) c) := by
         rw [Jc,show ((fi t:Int) + ((rw rows t).count c:Nat) - (fi t:Int)).toNat = (rw rows t).count c by omega]
         congr 1
         rw [decide_eq_decide]
         exact ⟨fun z => by injection z with z; exact Zo z,fun z => by rw [z]⟩
       rw [eC]
       refine ite2 (fun c2 => ?_) (fun c2 => ?_)
       · refine stop (no fun D' => ?_) S6
         rw [decide_eq_true (D' (t + j) (by omega) (by omega)).2] at c2
         cases c2
       · have c2:((rw rows (t + j)).drop (fi t)).take ((rw rows t).count c) = List.replicate ((rw rows t).count c) c := by
           by_cases q:((rw rows (t + j)).drop (fi t)).take ((rw rows t).count c) = List.replicate ((rw rows t).count c) c
           · exact q
           · exact absurd (by rw [decide_eq_false q]; rfl) c2
         refine ⟨_,rfl,rfl,fun y h1 h2 => ?_⟩
         by_cases ey:y = t + j
         · rw [ey]
           exact ⟨c1,c2⟩
         · exact Dj y h1 (by omega)
     · rintro σ H' ⟨o5,rfl,rfl,Dj⟩
       have Dj:Due rows c (fi t) t ((rw rows t).count c) (e + 1) := by
         rw [show t + ((e:Int) + 1 - (t:Int)).toNat = e + 1 by omega] at Dj
         exact Dj
       obtain ⟨R,Fu⟩ := jv Dj np (by omega) hin
       refine ⟨_,rfl,.inl ⟨rfl,_,SqL.of hb6⟩,_,rfl,_,rfl,lh,_,_,_,rfl,rfl,SqL.of hh,a0,_,rfl,_,rfl,_,rfl,lh,_,_,_,rfl,rfl,SqL.of hh,a1,_,_,rfl,rfl,by show 4 <= sizeLine; decide,fun p np' => ?_⟩
       have Sp := zf (o := .tup [.int (fi t:Nat),.int (t:Nat),.int ((fi t:Nat) + ((rw rows t).count c:Nat)),.int ((e:Nat) + 1)]) np'
       have eb:bxOf rows c = ⟨(fi t:Int),(t:Int),(fi t:Int) + ((rw rows t).count c:Nat),(e:Int) + 1⟩ := by
         rw [Zt R]
         simp
       have hb7 := Sp _ _ hb6
       refine ⟨lb,us,_,rfl,rfl,hb7,?_,?_⟩
       · rw [hB6.len,List.length_map,List.length_take]
         exact Nat.lt_of_le_of_lt (show _ <= 1000 by omega) (by decide)
       refine ⟨us ++ [.ref p],_,_,_,_,_,rfl,yH (S6.trans Sp) flb,zd,by rw [zq nDb]; exact Sp _ _ hD6,?_,fun c' hc' => ?_⟩
       · rw [<- xQ (bxOf rows) em,eb]
         exact qt (Z1 hb7 (hB6.same Sp)) ⟨p,rfl,by rw [zq (y9 zd hb7 (by intro z; cases z))]; exact zd⟩
       · rw [List.take_succ,em] at hc'
         rcases List.mem_append.mp hc' with z | z
         · exact F5 c' z
         · have:c' = c := by simpa using z
           rw [this]
           exact ⟨_,_,_,_,R,Fu⟩
   · rintro σ H5 ⟨us,o3,o4,o5,o6,o7,rfl,S5,hb5,hD5,hB5,F5⟩
     rw [lM,List.take_length] at hB5 F5
     have lus := hB5.len
     rw [List.length_map] at lus
     refine ⟨_,rfl,lb,_,rfl,.inl (SqL.of hb5),_,_,rfl,rfl,_,rfl,?_⟩
     have lms:us.length = (dd rows.flatten).length := by rw [lus,pm.length_eq]
     refine ite2 (fun c4 => ?_) (fun c4 => ?_)
     · refine stop (fun ok => ?_) S5
       have := (pic.mp ok).1
       have c4 := of_decide_eq_true c4
       omega
     have c4:¬ ((us.length:Int) > 24) := fun z => c4 (decide_eq_true z)
     have ok:yf rows := pic.mpr ⟨by omega,fun c hc => F5 c (pm.mem_iff.mpr hc)⟩
     have hl5 := S5 _ _ hl
     have hL5 := hL.same S5
     have bsP:(ms.map (bxOf rows)).Perm ((dd rows.flatten).map (bxOf rows)) := pm.map _
     have Tl := wl ok.2.tiles bsP
     generalize ms.map (bxOf rows) = bs at hB5 bsP Tl
     have lb1 := hB5.len
     obtain ⟨ps5,hT5,_⟩ := id hL5
     have n1 := ok.2.n1
     rw [List.length_map] at n1
     have okB:∀ b ∈ bs,0 <= b.l /\ b.l < 1001 := fun b hb => by
       have o := Tl.wf b hb
       have := o.h0
       have := o.h1
       have := o.h2
       constructor <;> omega
     refine ⟨_,rfl,a,_,0,_,rfl,rfl,SqL.of hl5,zH r0,_,rfl,l0',_,rfl,a,_,rfl,.inl (SqL.of hl5),_,rfl,hL5,fun ff cc H6 B6 hff hcc hL6 => ?_⟩
     have hB6 := Z0 hT5 B6 hB5
     refine ⟨lb,ff,cc,us,bs.map (fun b => (b.t,b.l)),1001,rfl,rfl,hff,hcc,SqL.of (B6 _ _ (y9 hb5 hT5 (by intro z; cases z)) hb5),by omega,by omega,by rw [List.length_map]; omega,fun z hz => ?_,fun i x z hx hz => ?_,fun D2 p2 H7 S7 hD2 po2 pu2 => ?_⟩
     · obtain ⟨b,hb,rfl⟩ := List.mem_map.mp hz
       exact okB b hb
     · rw [List.getElem?_map] at hz
       obtain ⟨b,e,rfl⟩ := Option.map_eq_some_iff.mp hz
       obtain ⟨v,hv,p',rfl,hp'⟩ := hB6.get e
       rw [hx] at hv
       cases hv
       exact ⟨p',bxV b,rfl,hp',rfl,rfl⟩
     · rw [lb1] at po2 pu2
       have SD2 := zf (o := .lst (p2.toList.map fun i => us.getD i .non)) hD2
       have st5 := x9 po2 okB pu2
       have pm5 := xT (d := bx0) po2
       have hB7 := wF (hB6.same (S7.trans SD2)) po2
       refine ⟨_,_,rfl,.inl ⟨SqL.of zd,fun tp ntp => ⟨by show 3 <= sizeLine; decide,fun pg npg => ?_⟩⟩⟩
       have S8 := (zf (o := .tup (p2.toList.map fun i => us.getD i .non)) ntp).trans (zf (o := .tup [.int ((txt (rows.getD 0 [])).length:Nat),.int ((txs rows).length:Nat),.ref tp]) npg)
       have S9 := S7.trans (SD2.trans S8)
       refine qP ok pg (picked bx0 p2 bs) _ ((S5.but T).trans (B6.trans (S9.but T))) (hL6.same S9) ⟨tp,picked .non p2 us,?_,(zf npg) _ _ zd,hB7.same S8,by rw [qk po2]; omega⟩ (pm5.trans bsP) st5
       rw [zd,zA,lr]
end
end _K4
namespace _K4
open PySem _L2 _Til _Pic
theorem Zu {rows:List (List Nat)} (h:xf rows = false):¬ yf rows := fun ok => by
 rw [ok.1] at h
 cases h
theorem XE {rows:List (List Nat)} (h:(rows.getD 0 []).length = 0):¬ yf rows := fun ok => by
 have := ok.2.w
 omega
theorem XF {rows:List (List Nat)} (h:24 < (dd rows.flatten).length):¬ yf rows := fun ok => by
 have := ok.2.n24
 rw [List.length_map] at this
 omega
theorem XG {rows:List (List Nat)} {c x1 y1 x2 y2 x y:Nat} (a:(rw rows y1)[x1]? = some c) (b:(rw rows y2)[x2]? = some c) (h1:x1 <= x /\ x <= x2) (h2:y1 <= y /\ y <= y2) (n:(rw rows y)[x]? ≠ some c):¬ yf rows := fun ok => by
 have hev:∀ r ∈ rows,r.length = (rows.getD 0 []).length := fun r hr => by
   have ev := ok.1
   unfold xf at ev
   rw [Bool.and_eq_true,List.all_eq_true] at ev
   exact of_decide_eq_true (ev.2 r hr)
 have hS:∀ c,c ∈ dd rows.flatten ↔ ∃ x y:Nat,(rw rows y)[x]? = some c := fun c => by
   rw [(xH rows.flatten).2.1 c]
   constructor
   · intro h
     obtain ⟨r,hr1,hr2⟩ := List.mem_flatten.mp h
     obtain ⟨y,hy⟩ := List.getElem?_of_mem hr1
     obtain ⟨x,hx⟩ := List.getElem?_of_mem hr2
     refine ⟨x,y,?_⟩
     unfold rw
     rw [List.getD_eq_getElem?_getD,hy]
     exact hx
   · rintro ⟨x,y,h⟩
     exact List.mem_flatten.mpr ⟨_,wH (wL h),List.mem_of_getElem? h⟩
 have w1 := ok.2.w
 have g1 := ok.2.g
 obtain ⟨l,t,r,bb,R,Fu⟩ := ((YR hev (by omega) (by omega) (xH rows.flatten).1 hS).mp ok.2).2 c ((hS c).mpr ⟨x1,y1,a⟩)
 have p1 := R.all _ _ a
 have p2 := R.all _ _ b
 exact n (Fu x y (by omega) (by omega) (by omega) (by omega))
noncomputable def abc (n:Nat):List Nat := (List.range n).map (· + 97)
theorem no_1:¬ yf [] := Zu rfl
theorem no_2:¬ yf [[]] := XE rfl
theorem no_3:¬ yf [[],[]] := XE rfl
theorem no_4:¬ yf [abc 25] := XF (by decide +kernel)
theorem no_5:¬ yf ((abc 26).map fun c => [c]) := XF (by decide +kernel)
theorem no_6:¬ yf [[97],[]] := Zu (by decide)
theorem no_7:¬ yf [[97,98],[98,97]] := XG (c := 97) (x1 := 0) (y1 := 0) (x2 := 1) (y2 := 1) (x := 1) (y := 0) rfl rfl (by decide) (by decide) (by decide)
theorem no_8:¬ yf [[97,98,97]] := XG (c := 97) (x1 := 0) (y1 := 0) (x2 := 2) (y2 := 0) (x := 1) (y := 0) rfl rfl (by decide) (by decide) (by decide)
theorem no_9:¬ yf [[],[97]] := Zu (by decide)
end _K4
namespace _L2
open PySem PySem.Spec PyProof.Rows
noncomputable def J7:V -> List V -> Hp -> VK -> Prop := fun x vs H Q => ∃ l xs y,∃ i:Nat,x = .ref l /\ vs = [.int i,y] /\ i <= xs.length /\ H l = some (.lst xs) /\ xs.length < 1000000 /\ Q .non (upd H l (.lst (xs.take i ++ y :: xs.drop i)))
theorem zaT (its:List Value) (u:Value) (i:Nat) (hi:i <= its.length):((its.toArray.extract 0 (if (i:Int) < 0 then ((i:Int) + (its.toArray.size:Int)).toNat else min (i:Int).toNat its.toArray.size)).push u ++ its.toArray.extract (if (i:Int) < 0 then ((i:Int) + (its.toArray.size:Int)).toNat else min (i:Int).toNat its.toArray.size)) = (its.take i ++ u :: its.drop i).toArray := by
 have e:(if (i:Int) < 0 then ((i:Int) + (its.toArray.size:Int)).toNat else min (i:Int).toNat its.toArray.size) = i := by
   rw [if_neg (by omega),List.size_toArray,Int.toNat_natCast]
   exact Nat.min_eq_left hi
 rw [e]
 apply Array.ext'
 simp
 rw [List.take_of_length_le (by rw [List.length_drop]; exact Nat.le_refl _)]
section
variable {X:Cx}
theorem Qx (l:Addr) (its:Array Value) (n:Nat) (k:Int) (t:Tok) (u:Value) (h1:-(2 ^ 63) <= k) (h2:k < 2 ^ 63) (hsz:its.size <= sizeLine):Meets (Builtin.«list.insert» { pos := [Value.ref l,Value.int k t,u] }) fun _ R s =>
   s.heap.get? l = some { cls := Value.type "list",data := Data.seq its n } /\ R (Except.ok (Flow.ret Value.none)) { s with heap := s.heap.update l (Obj.mapSeq fun xs => (xs.extract 0 (if k < 0 then (k + (xs.size:Int)).toNat else min k.toNat xs.size)).push u ++ xs.extract (if k < 0 then (k + (xs.size:Int)).toNat else min k.toNat xs.size)) } := by
 have fits:¬ (!Builtin.List.listFitsIndex k) = true := by
   rw [fitsIndex_both h1 h2]
   exact fun z => nomatch z
 exact PySem.AutoListH.list_insert_list_int_val_1 l its n k t u fits hsz
theorem Qy:MtM X "list.insert" J7 := by
 intro pins s σ H x vs v us Q I rx rv h
 obtain ⟨l,xs,y,i,rfl,rfl,hi,hH,hz,q⟩ := h
 cases rx
 obtain ⟨u1,u2,rfl,ru1,ru2⟩ := vals2 rv
 obtain ⟨t,rfl⟩ := ru1
 obtain ⟨z,its,n,r,hl,e⟩ := I.lstM hH
 have hlen := r.length
 have hsz:its.toArray.size <= sizeLine := by
   rw [List.size_toArray,<- hlen]
   have q := z
   exact q
 have h1:-(2 ^ 63) <= (i:Int) := by omega
 have h2:(i:Int) < 2 ^ 63 := by omega
 have key := zaT its u2 i (by omega)
 generalize hA:its.toArray = A at hsz e key
 generalize hk:(i:Int) = k at h1 h2 key ⊢
 have M1 := Qx l A n k t u2 h1
 have M := M1 h2 hsz
 refine call_meets F.slot_list_insert ⟨_,e,rfl⟩ F.entry_list_insert (F.args_list_insert_3 (.ref l) (.int k t) u2) M ⟨e,?_⟩
 subst hA
 refine ⟨.non,_,I.lset (its' := its.take i ++ u2 :: its.drop i) hH e key ((r.take i).append (.cons ru2 (r.drop i))) ?_,rfl,q⟩
 rw [List.length_append,List.length_cons,List.length_take,List.length_drop]
 have a:min i xs.length + (xs.length - i + 1) <= 1000000 := by omega
 exact Nat.le_trans a (by decide)
end
end _L2
namespace _K4
open PySem _L2 _Til _Pic
noncomputable def Of (A:List Nat) (n:Nat) (rows:List (List Nat)):Prop := ∀ r ∈ rows,r.length <= n /\ ∀ c ∈ r,c ∈ A
theorem xR {w:List Nat} {lo hi:Option Int} {c:Nat} (h:c ∈ cutN w lo hi):c ∈ w := List.mem_of_mem_drop (List.mem_of_mem_take h)
theorem jq (rows:List (List Nat)) (lo hi:Option Int):∃ rs,cutV (txs rows) lo hi = txs rs /\ (∀ r ∈ rs,r ∈ rows) /\ rs.length <= rows.length := by
 refine ⟨(rows.drop (_HT.sIx (txs rows).length 0 lo)).take (_HT.sIx (txs rows).length (txs rows).length hi - _HT.sIx (txs rows).length 0 lo),?_,fun r hr => List.mem_of_mem_drop (List.mem_of_mem_take hr),?_⟩
 · unfold cutV txs
   rw [List.map_take,List.map_drop]
 · rw [List.length_take,List.length_drop]
   omega
theorem J8 {rows:List (List Nat)} {i:Nat} {r:List Nat}:(txs rows).set i (.str (txt r)) = txs (rows.set i r) := by
 unfold txs
 rw [List.map_set]
theorem zaU {A:List Nat} {n i:Nat} {rows:List (List Nat)} {r:List Nat} (h:Of A n rows) (hr:r.length <= n /\ ∀ c ∈ r,c ∈ A):Of A n (rows.set i r) := fun r' hr' => by
 rcases List.mem_or_eq_of_mem_set hr' with m | e
 · exact h r' m
 · rw [e]; exact hr
noncomputable def Zv:Sp := fun vs H Q _ => ∃ (a:Addr) (rows:List (List Nat)) (k:Int) (W:Nat) (A:List Nat),vs = [.ref a,.int k] /\ H a = some (.lst (txs rows)) /\ 1 <= rows.length /\ rows.length <= 100 /\ 1 <= W /\ W <= 100 /\ (∀ r ∈ rows,r.length = W /\ ∀ c ∈ r,c ∈ A) /\
 ∀ (l:Addr) (rs:List (List Nat)) (H':Hp),Same H H' -> H l = none -> H' l = some (.lst (txs rs)) -> rs.length <= 200 -> Of (63 :: A) 300 rs -> Q (.ref l) H'
theorem YU {W:Nat}:∀ {rows:List (List Nat)},(∀ r ∈ rows,r.length = W) -> rows.flatten.length = rows.length * W
 | [],_ => by simp
 | r :: rs,h => by
   rw [List.flatten_cons,List.length_append,h r List.mem_cons_self,YU fun r' hr => h r' (List.mem_cons_of_mem _ hr),List.length_cons,Nat.add_mul]
   omega
section
variable {P:Program} {w:World} {K:PySem.W.Frag} {mg:Str -> Option Value} {base:Heap}
theorem xS:zC ["rows","cell","found","at","x","sign"] ["rows","cell"] (zl w5) := ⟨rfl,rfl,rfl,by decide +kernel,rfl,by decide +kernel,by decide +kernel⟩
theorem Jd {f:Addr} {fd:FuncData} (F:Fun K "_law_spoilt" "_law_spoilt" w5 f fd) (tl:mg "len" = none) (tlist:mg "list" = none):FnOk P w K mg base CX0 1 f fd ["rows","cell"] Zv := by
 refine F.ok xS (fun vs H Q E h => ?_) (fun cdv A outer s H vs Q E hr h => ?_)
 · obtain ⟨a,rows,k,W,Al,rfl,_⟩ := h
   rfl
 · obtain ⟨a,rows,k,W,Al,rfl,hl,g1,g2,w1,w2,hA,q⟩ := h
   refine ⟨_,(zg (zt (i := 2) xS.nd rfl (Or.inl rfl) (xC qC rfl tlist PyProof.Rows.boot_list (za (pv 0) zb)))
     (zg (zt (i := 3) xS.nd rfl (Or.inl rfl) (zk zM (zk yw (pv 1) ze) (zo zI (by rfl) tl PySem.boot_len (za (pv 0) zb))))
     (zg (zt (i := 4) xS.nd rfl (Or.inl rfl) (zk zM (zk yw (pv 1) ze) (zo yd (by rfl) tl PySem.boot_len (za (zn zv (pv 0) ze (fun _ _ => rfl)) zb))))
     (zg (zt (i := 5) xS.nd rfl (Or.inl rfl) (zn Zp (xc PySem.F.plainAttrs_str PySem.F.slot_str_join PySem.F.type_str_join qq zP (by exact (za (pv 0) zb))) (zk zM (zk yw (pv 1) ze) (zk xV (zo zI (by rfl) tl PySem.boot_len (za (pv 0) zb)) (zo yd (by rfl) tl PySem.boot_len (za (zn zv (pv 0) ze (fun _ _ => rfl)) zb)))) (fun _ _ => rfl)))
     (zg (zU (zu yY (zk zM (pv 1) ze) ze (zr _))
     (zh (zt (i := 5) xS.nd rfl (Or.inl rfl) zP))
     zO)
     (zg (zU (zu yt (zk zM (pv 1) ze) ze (zr _))
     (zh (xi (zk wg (zk wg (yg wI (zn zv (pv 0) (pv 3) (fun _ _ => rfl)) y7 (yc (pv 4))) (pv 5)) (yg wI (zn zv (pv 0) (pv 3) (fun _ _ => rfl)) (yc (zk zQ (pv 4) ze)) y7)) (qy (pv 2) (pv 3) set_list)))
     (zh (zU (zu yY (zk zM (pv 1) ze) ze (zr _))
       (zh (xi (zk wg (zn zv (pv 0) (pv 3) (fun _ _ => rfl)) (pv 5)) (qy (pv 2) (pv 3) set_list)))
       (zh (zU (zu yY (zk zM (pv 1) ze) ze (zr _))
         (zh (xi (yg wI (zn zv (pv 0) (pv 3) (fun _ _ => rfl)) (yc ze) y7) (qy (pv 2) (pv 3) set_list)))
         (zh (zU (zu yY (zk zM (pv 1) ze) ze (zr _))
           (zh (xi zP (qy (pv 2) (pv 3) set_list)))
           (zh (zU (zu yY (zk zM (pv 1) ze) ze (zr _))
             (zh (zt (i := 2) xS.nd rfl (Or.inl rfl) (zk wS (yg xN (pv 0) y7 (yc (pv 3))) (yg xN (pv 0) (yc (zk zQ (pv 3) ze)) y7))))
             (zh (xl (xc PySem.F.plainAttrs_list PySem.F.slot_list_insert PySem.F.type_list_insert Qy (pv 2) (za (zk zM (pv 4) (zk zQ (zo zI (by rfl) tl PySem.boot_len (za (pv 0) zb)) ze)) (za (zn zv (pv 0) (pv 3) (fun _ _ => rfl)) zb))))))))))))))
     (zh (zw (pv 2))))))))),?_⟩
   have lr:(txs rows).length = rows.length := List.length_map _
   have r0:(txs rows)[0]? = some (.str (txt (rows.getD 0 []))) := by
     cases rows with
     | nil => exact absurd g1 (by decide)
     | cons r rs => rfl
   have m0:rows.getD 0 [] ∈ rows := by
     cases rows with
     | nil => exact absurd g1 (by decide)
     | cons r rs => exact List.mem_cons_self
   have e0:(rows.getD 0 []).length = W := (hA _ m0).1
   have l0:(txt (rows.getD 0 [])).length <= sizeLine := by rw [zA,e0]; exact Nat.le_trans w2 (by decide)
   have fl := YU fun r hr => (hA r hr).1
   have sl:(rows.map List.length).sum <= 1000000 := by
     have:(rows.map List.length).sum <= rows.length * 100 := jp fun r hr => by rw [(hA r hr).1]; exact w2
     have:rows.length * 100 <= 100 * 100 := Nat.mul_le_mul_right _ g2
     omega
   refine ⟨_,rfl,a,_,rfl,.inl (SqL.of hl),fun l nl => ?_⟩
   have S1 := zf (o := .lst (txs rows)) nl
   have hf:(upd H l (.lst (txs rows))) l = some (.lst (txs rows)) := zd
   have hl1 := S1 _ _ hl
   dsimp only [zG]
   generalize upd H l (.lst (txs rows)) = H1 at S1 hf hl1
   have p0 := Int.emod_nonneg (k / 7) (show ((txs rows).length:Int) ≠ 0 by omega)
   have p1 := Int.emod_lt_of_pos (k / 7) (show (0:Int) < ((txs rows).length:Int) by omega)
   obtain ⟨at_,ha⟩ := Int.eq_ofNat_of_zero_le p0
   have x0 := Int.emod_nonneg (k / 343) (show ((txt (rows.getD 0 [])).length:Int) ≠ 0 by rw [zA]; omega)
   have x1 := Int.emod_lt_of_pos (k / 343) (show (0:Int) < ((txt (rows.getD 0 [])).length:Int) by rw [zA]; omega)
   obtain ⟨x,hx⟩ := Int.eq_ofNat_of_zero_le x0
   refine ⟨_,rfl,_,_,rfl,rfl,⟨by decide,by decide⟩,_,rfl,a,_,rfl,.inl (SqL.of hl1),_,_,rfl,rfl,by omega,?_⟩
   dsimp only [zG]
   rw [ha]
   refine ⟨_,rfl,_,_,rfl,rfl,⟨by decide,by decide⟩,_,rfl,a,_,0,_,rfl,rfl,SqL.of hl1,zH r0,_,rfl,l0,_,_,rfl,rfl,by rw [zA]; omega,?_⟩
   dsimp only [zG]
   rw [hx]
   have gw:rows.length * W <= 100 * 100 := Nat.mul_le_mul g2 w2
   have gp:0 < rows.length * W := Nat.mul_pos g1 w1
   have eM:((txs rows).length:Int) * ((txt (rows.getD 0 [])).length:Int) = ((rows.length * W:Nat):Int) := by rw [lr,zA,e0,Int.natCast_mul]
   have mp:(0:Int) < ((txs rows).length:Int) * ((txt (rows.getD 0 [])).length:Int) := by rw [eM]; omega
   have c0 := Int.emod_nonneg (k / 11) (show ((txs rows).length:Int) * ((txt (rows.getD 0 [])).length:Int) ≠ 0 by omega)
   have c1 := Int.emod_lt_of_pos (k / 11) mp
   obtain ⟨m,hm⟩ := Int.eq_ofNat_of_zero_le c0
   have lm:m < rows.flatten.length := by rw [fl]; rw [hm,eM] at c1; omega
   have at1:atI rows.flatten (k / 11 % (((txs rows).length:Int) * ((txt (rows.getD 0 [])).length:Int))) = some rows.flatten[m] := by
     rw [hm]
     exact zH (List.getElem?_eq_getElem lm)
   have cA:rows.flatten[m] ∈ Al := by
     obtain ⟨r,hr1,hr2⟩ := List.mem_flatten.mp (List.getElem_mem lm)
     exact (hA r hr1).2 _ hr2
   generalize rows.flatten[m] = c at at1 cA
   refine ⟨rfl,_,rfl,a,rows,rfl,rfl,SqL.of hl1,sl,_,rfl,_,_,rfl,rfl,⟨by decide,by decide⟩,_,rfl,a,_,rfl,.inl (SqL.of hl1),_,rfl,a,_,0,_,rfl,rfl,SqL.of hl1,zH r0,_,rfl,l0,_,_,rfl,rfl,.inl ⟨by omega,by omega⟩,_,_,rfl,rfl,mp,rows.flatten,_,c,rfl,rfl,by rw [fl]; omega,at1,?_⟩
   dsimp only [zG]
   have la:at_ < rows.length := by rw [ha,lr] at p1; omega
   have hB:Of (63 :: Al) 300 rows := fun r hr => ⟨by rw [(hA r hr).1]; omega,fun c hc => List.mem_cons_of_mem _ ((hA r hr).2 c hc)⟩
   have mr:rows[at_] ∈ rows := List.getElem_mem la
   have rT:(txs rows)[at_]? = some (.str (txt rows[at_])) := by
     unfold txs
     rw [List.getElem?_map,List.getElem?_eq_getElem la]
     rfl
   generalize rows[at_] = r at mr rT
   have rl := (hA r mr).1
   have rA := (hB r mr).2
   have ixE:ixN (txs rows).length (at_:Int) = some at_ := by
     unfold ixN
     rw [if_pos (by omega),if_pos (by omega)]
     rfl
   have fin:∀ r':List Nat,r'.length <= 300 -> (∀ c ∈ r',c ∈ 63 :: Al) -> Q (.ref l) (upd H1 l (.lst ((txs rows).set at_ (.str (txt r'))))) := fun r' h1 h2 =>
     q l (rows.set at_ r') _ (yH S1 nl) nl (by rw [zd,J8]) (by rw [List.length_set]; omega) (zaU hB ⟨h1,h2⟩)
   have tlen:∀ w:List Nat,w.length <= 500 -> (txt w).length <= 1000 := fun w hw => by rw [zA]; omega
   have big:(2000:Nat) <= sizeLine := by decide
   refine ⟨_,rfl,_,_,rfl,rfl,by show (0:Int) < 7; decide,rfl,_,rfl,?_⟩
   refine ite2 (fun q1 => ?_) (fun q1 => ?_)
   · rw [show ("?" : Str) = txt [63] from by decide +kernel]
     dsimp only [tAsg,tC,zG]
     obtain ⟨d,hd,dA⟩ : ∃ d,d = 63 /\ d ∈ 63 :: Al := ⟨63,rfl,List.mem_cons_self⟩
     rw [<- hd]
     refine ⟨_,rfl,_,_,rfl,rfl,by show (0:Int) < 7; decide,_,_,rfl,rfl,_,rfl,?_⟩
     refine ite2 (fun b1 => ?_) (fun b1 => ?_)
     · have l1 := xB r none (some (x:Int))
       have l2 := xB r (some ((x:Int) + 1)) none
       refine ⟨_,rfl,_,rfl,a,_,at_,_,rfl,rfl,SqL.of hl1,zH rT,_,rfl,_,rfl,r,rfl,by omega,_,rfl,_,_,rfl,rfl,?_,?_⟩
       · have := tlen (cutN r none (some (x:Int))) (by omega)
         rw [zA (l := [d]),List.length_singleton]
         omega
       rw [wv]
       refine ⟨_,rfl,_,rfl,a,_,at_,_,rfl,rfl,SqL.of hl1,zH rT,_,rfl,_,_,rfl,rfl,_,rfl,r,rfl,by omega,_,_,rfl,rfl,?_,?_⟩
       · rw [zA,zA,List.length_append,List.length_singleton]
         omega
       rw [wv]
       refine ⟨_,rfl,_,rfl,l,_,_,at_,rfl,rfl,hf,ixE,_,rfl,fin _ ?_ fun e he => ?_⟩
       · rw [List.length_append,List.length_append,List.length_singleton]
         omega
       · rcases List.mem_append.mp he with he | he
         · rcases List.mem_append.mp he with he | he
           · exact rA e (xR he)
           · rw [List.mem_singleton.mp he]; exact dA
         · exact rA e (xR he)
     refine ⟨_,rfl,_,_,rfl,rfl,by show (0:Int) < 7; decide,rfl,_,rfl,?_⟩
     refine ite2 (fun b2 => ?_) (fun b2 => ?_)
     · refine ⟨_,rfl,_,rfl,a,_,at_,_,rfl,rfl,SqL.of hl1,zH rT,_,rfl,_,_,rfl,rfl,?_,?_⟩
       · rw [zA,zA,List.length_singleton]
         omega
       rw [wv]
       refine ⟨_,rfl,_,rfl,l,_,_,at_,rfl,rfl,hf,ixE,_,rfl,fin _ ?_ fun e he => ?_⟩
       · rw [List.length_append,List.length_singleton]
         omega
       · rcases List.mem_append.mp he with he | he
         · exact rA e he
         · rw [List.mem_singleton.mp he]; exact dA
     refine ⟨_,rfl,_,_,rfl,rfl,by show (0:Int) < 7; decide,rfl,_,rfl,?_⟩
     refine ite2 (fun b3 => ?_) (fun b3 => ?_)
     · have l1 := xB r (some 1) none
       exact ⟨_,rfl,_,rfl,a,_,at_,_,rfl,rfl,SqL.of hl1,zH rT,_,rfl,r,rfl,by omega,_,rfl,_,rfl,l,_,_,at_,rfl,rfl,hf,ixE,_,rfl,fin _ (by omega) fun e he => rA e (xR he)⟩
     refine ⟨_,rfl,_,_,rfl,rfl,by show (0:Int) < 7; decide,rfl,_,rfl,?_⟩
     refine ite2 (fun b4 => ?_) (fun b4 => ?_)
     · exact ⟨_,rfl,_,rfl,l,_,_,at_,rfl,rfl,hf,ixE,_,rfl,fin [] (by decide) fun e he => absurd he List.not_mem_nil⟩
     refine ⟨_,rfl,_,_,rfl,rfl,by show (0:Int) < 7; decide,rfl,_,rfl,?_⟩
     refine ite2 (fun b5 => ?_) (fun b5 => ?_)
     · obtain ⟨ra,ea,ma,na⟩ := jq rows none (some (at_:Int))
       obtain ⟨rb,eb,mb,nb⟩ := jq rows (some ((at_:Int) + 1)) none
       refine ⟨_,rfl,_,rfl,_,rfl,a,_,rfl,SqL.of hl1,fun p np => ?_⟩
       have Sp := zf (o := .lst (cutV (txs rows) none (some (at_:Int)))) np
       refine ⟨_,rfl,_,rfl,_,_,rfl,rfl,_,rfl,a,_,rfl,SqL.of (Sp _ _ hl1),fun p2 np2 => ?_⟩
       have Sp2 := zf (o := .lst (cutV (txs rows) (some ((at_:Int) + 1)) none)) np2
       have n1 := yS (txs rows) none (some (at_:Int))
       have n2 := yS (txs rows) (some ((at_:Int) + 1)) none
       refine ⟨p,p2,_,_,rfl,rfl,Sp2 _ _ zd,zd,by omega,fun p3 np3 => ?_⟩
       have SS := S1.trans (Sp.trans Sp2)
       refine ⟨_,rfl,q p3 (ra ++ rb) _ (SS.trans (zf np3)) (SS.free np3) ?_ (by rw [List.length_append]; omega) fun r' hr' => ?_⟩
       · rw [zd,ea,eb]
         unfold txs
         rw [List.map_append]
       · rcases List.mem_append.mp hr' with hr' | hr'
         · exact hB r' (ma r' hr')
         · exact hB r' (mb r' hr')
     · have eI:(x:Int) % (((txs rows).length:Int) + 1) = ((x % ((txs rows).length + 1):Nat):Int) := by
         rw [Int.natCast_emod]
         rfl
       have iL:x % ((txs rows).length + 1) <= (txs rows).length := by
         have := Nat.mod_lt x (show 0 < (txs rows).length + 1 by omega)
         omega
       refine ⟨_,rfl,.inl ⟨rfl,_,SqL.of hf⟩,_,rfl,_,rfl,a,_,rfl,.inl (SqL.of hl1),_,_,rfl,rfl,_,_,rfl,rfl,by omega,_,rfl,_,rfl,a,_,at_,_,rfl,rfl,SqL.of hl1,zH rT,l,_,_,_,rfl,by dsimp only; rw [eI],iL,hf,by omega,?_⟩
       generalize x % ((txs rows).length + 1) = i at iL
       refine ⟨_,rfl,q l (rows.take i ++ r :: rows.drop i) _ (yH S1 nl) nl ?_ ?_ fun r' hr' => ?_⟩
       · rw [zd]
         unfold txs
         rw [List.map_append,List.map_cons,List.map_take,List.map_drop]
       · rw [List.length_append,List.length_cons,List.length_take,List.length_drop]
         omega
       · rcases List.mem_append.mp hr' with hr' | hr'
         · exact hB r' (List.mem_of_mem_take hr')
         · rcases List.mem_cons.mp hr' with e | hr'
           · rw [e]; exact hB r mr
           · exact hB r' (List.mem_of_mem_drop hr')
   · dsimp only
     have dA:c ∈ 63 :: Al := List.mem_cons_of_mem _ cA
     refine ⟨_,rfl,_,_,rfl,rfl,by show (0:Int) < 7; decide,_,_,rfl,rfl,_,rfl,?_⟩
     refine ite2 (fun b1 => ?_) (fun b1 => ?_)
     · have l1 := xB r none (some (x:Int))
       have l2 := xB r (some ((x:Int) + 1)) none
       refine ⟨_,rfl,_,rfl,a,_,at_,_,rfl,rfl,SqL.of hl1,zH rT,_,rfl,_,rfl,r,rfl,by omega,_,rfl,_,_,rfl,rfl,?_,?_⟩
       · have := tlen (cutN r none (some (x:Int))) (by omega)
         rw [zA (l := [c]),List.length_singleton]
         omega
       rw [wv]
       refine ⟨_,rfl,_,rfl,a,_,at_,_,rfl,rfl,SqL.of hl1,zH rT,_,rfl,_,_,rfl,rfl,_,rfl,r,rfl,by omega,_,_,rfl,rfl,?_,?_⟩
       · rw [zA,zA,List.length_append,List.length_singleton]
         omega
       rw [wv]
       refine ⟨_,rfl,_,rfl,l,_,_,at_,rfl,rfl,hf,ixE,_,rfl,fin _ ?_ fun e he => ?_⟩
       · rw [List.length_append,List.length_append,List.length_singleton]
         omega
       · rcases List.mem_append.mp he with he | he
         · rcases List.mem_append.mp he with he | he
           · exact rA e (xR he)
           · rw [List.mem_singleton.mp he]; exact dA
         · exact rA e (xR he)
     refine ⟨_,rfl,_,_,rfl,rfl,by show (0:Int) < 7; decide,rfl,_,rfl,?_⟩
     refine ite2 (fun b2 => ?_) (fun b2 => ?_)
     · refine ⟨_,rfl,_,rfl,a,_,at_,_,rfl,rfl,SqL.of hl1,zH rT,_,rfl,_,_,rfl,rfl,?_,?_⟩
       · rw [zA,zA,List.length_singleton]
         omega
       rw [wv]
       refine ⟨_,rfl,_,rfl,l,_,_,at_,rfl,rfl,hf,ixE,_,rfl,fin _ ?_ fun e he => ?_⟩
       · rw [List.length_append,List.length_singleton]
         omega
       · rcases List.mem_append.mp he with he | he
         · exact rA e he
         · rw [List.mem_singleton.mp he]; exact dA
     refine ⟨_,rfl,_,_,rfl,rfl,by show (0:Int) < 7; decide,rfl,_,rfl,?_⟩
     refine ite2 (fun b3 => ?_) (fun b3 => ?_)
     · have l1 := xB r (some 1) none
       exact ⟨_,rfl,_,rfl,a,_,at_,_,rfl,rfl,SqL.of hl1,zH rT,_,rfl,r,rfl,by omega,_,rfl,_,rfl,l,_,_,at_,rfl,rfl,hf,ixE,_,rfl,fin _ (by omega) fun e he => rA e (xR he)⟩
     refine ⟨_,rfl,_,_,rfl,rfl,by show (0:Int) < 7; decide,rfl,_,rfl,?_⟩
     refine ite2 (fun b4 => ?_) (fun b4 => ?_)
     · exact ⟨_,rfl,_,rfl,l,_,_,at_,rfl,rfl,hf,ixE,_,rfl,fin [] (by decide) fun e he => absurd he List.not_mem_nil⟩
     refine ⟨_,rfl,_,_,rfl,rfl,by show (0:Int) < 7; decide,rfl,_,rfl,?_⟩
     refine ite2 (fun b5 => ?_) (fun b5 => ?_)
     · obtain ⟨ra,ea,ma,na⟩ := jq rows none (some (at_:Int))
       obtain ⟨rb,eb,mb,nb⟩ := jq rows (some ((at_:Int) + 1)) none
       refine ⟨_,rfl,_,rfl,_,rfl,a,_,rfl,SqL.of hl1,fun p np => ?_⟩
       have Sp := zf (o := .lst (cutV (txs rows) none (some (at_:Int)))) np
       refine ⟨_,rfl,_,rfl,_,_,rfl,rfl,_,rfl,a,_,rfl,SqL.of (Sp _ _ hl1),fun p2 np2 => ?_⟩
       have Sp2 := zf (o := .lst (cutV (txs rows) (some ((at_:Int) + 1)) none)) np2
       have n1 := yS (txs rows) none (some (at_:Int))
       have n2 := yS (txs rows) (some ((at_:Int) + 1)) none
       refine ⟨p,p2,_,_,rfl,rfl,Sp2 _ _ zd,zd,by omega,fun p3 np3 => ?_⟩
       have SS := S1.trans (Sp.trans Sp2)
       refine ⟨_,rfl,q p3 (ra ++ rb) _ (SS.trans (zf np3)) (SS.free np3) ?_ (by rw [List.length_append]; omega) fun r' hr' => ?_⟩
       · rw [zd,ea,eb]
         unfold txs
         rw [List.map_append]
       · rcases List.mem_append.mp hr' with hr' | hr'
         · exact hB r' (ma r' hr')
         · exact hB r' (mb r' hr')
     · have eI:(x:Int) % (((txs rows).length:Int) + 1) = ((x % ((txs rows).length + 1):Nat):Int) := by
         rw [Int.natCast_emod]
         rfl
       have iL:x % ((txs rows).length + 1) <= (txs rows).length := by
         have := Nat.mod_lt x (show 0 < (txs rows).length + 1 by omega)
         omega
       refine ⟨_,rfl,.inl ⟨rfl,_,SqL.of hf⟩,_,rfl,_,rfl,a,_,rfl,.inl (SqL.of hl1),_,_,rfl,rfl,_,_,rfl,rfl,by omega,_,rfl,_,rfl,a,_,at_,_,rfl,rfl,SqL.of hl1,zH rT,l,_,_,_,rfl,by dsimp only; rw [eI],iL,hf,by omega,?_⟩
       generalize x % ((txs rows).length + 1) = i at iL
       refine ⟨_,rfl,q l (rows.take i ++ r :: rows.drop i) _ (yH S1 nl) nl ?_ ?_ fun r' hr' => ?_⟩
       · rw [zd]
         unfold txs
         rw [List.map_append,List.map_cons,List.map_take,List.map_drop]
       · rw [List.length_append,List.length_cons,List.length_take,List.length_drop]
         omega
       · rcases List.mem_append.mp hr' with hr' | hr'
         · exact hB r' (List.mem_of_mem_take hr')
         · rcases List.mem_cons.mp hr' with e | hr'
           · rw [e]; exact hB r mr
           · exact hB r' (List.mem_of_mem_drop hr')
end
end _K4
namespace _L2
open PySem
theorem Qz {X:Cx} {K:PySem.W.Frag} (hK:X.K = K):MtR X "str.join" (fun x vs H Q => ∃ (a:Addr) (ls:List (List Nat)),x = .str "" /\ vs = [.ref a] /\ SqL K H a (ls.map fun l => V.str (txt l)) /\ (ls.map List.length).sum <= 1000000 /\ Q (.str (txt ls.flatten)) H) := hK ▸ qq
end _L2
namespace _K4
open PySem _L2 _Til _Pic
noncomputable def letters:List Nat := (List.range 24).map (· + 97)
noncomputable def rowV (W:Nat) (g:Nat -> Nat -> List Nat) (y:Nat):List V := (List.range W).map fun x => V.str (txt (g x y))
structure Grid (H0 H:Hp) (lr:Addr) (as:List Addr) (W G:Nat) (g:Nat -> Nat -> List Nat):Prop where
 same:Same H0 H
 out:H lr = some (.lst (as.map V.ref))
 len:as.length = G
 row:∀ (j:Nat) (a:Addr),as[j]? = some a -> H a = some (.lst (rowV W g j))
 one:∀ x y,g x y = [] \/ ∃ c ∈ letters,g x y = [c]
noncomputable def putG (g:Nat -> Nat -> List Nat) (x y:Nat) (t:List Nat):Nat -> Nat -> List Nat := fun x' y' => if x' = x /\ y' = y then t else g x' y'
theorem Je {W x y:Nat} {g:Nat -> Nat -> List Nat} {t:List Nat} (hx:x < W):(rowV W g y).set x (.str (txt t)) = rowV W (putG g x y t) y := by
 unfold rowV
 refine List.ext_getElem? fun i => ?_
 rw [List.getElem?_set,List.getElem?_map,List.getElem?_map]
 by_cases hi:i < W
 · rw [List.getElem?_range hi]
   by_cases e:x = i
   · subst e
     simp [putG,hx]
   · rw [if_neg e]
     simp only [Option.map_some,putG]
     rw [if_neg (fun z => e z.1.symm)]
 · rw [List.getElem?_eq_none (l := List.range W) (by rw [List.length_range]; omega),if_neg (by omega)]
   rfl
theorem Wk {W x y j:Nat} {g:Nat -> Nat -> List Nat} {t:List Nat} (h:j ≠ y):rowV W (putG g x y t) j = rowV W g j := by
 unfold rowV putG
 refine List.map_congr_left fun i _ => ?_
 rw [if_neg (fun z => h z.2)]
theorem blanks:∀ W:Nat,(List.replicate W [V.str ""]).flatten = rowV W (fun _ _ => []) 0
 | 0 => rfl
 | W + 1 => by
   have ih := blanks W
   unfold rowV at ih ⊢
   rw [List.replicate_succ',List.flatten_append,ih,List.range_succ,List.map_append]
   rfl
theorem Jf (W:Nat) (g:Nat -> Nat -> List Nat) (y:Nat):(rowV W g y).length = W := by
 unfold rowV
 rw [List.length_map,List.length_range]
theorem Grid.put {H0 H:Hp} {lr:Addr} {as:List Addr} {W G:Nat} {g:Nat -> Nat -> List Nat} (nd:as.Nodup) (fr:∀ a ∈ as,H0 a = none /\ a ≠ lr) (h:Grid H0 H lr as W G g) {x y c:Nat} {a:Addr} (e:as[y]? = some a) (hx:x < W) (hc:c ∈ letters) :
   Grid H0 (upd H a (.lst ((rowV W g y).set x (.str (txt [c]))))) lr as W G (putG g x y [c]) := by
 have fa := fr a (List.mem_of_getElem? e)
 refine ⟨yH h.same fa.1,by rw [zq fa.2.symm]; exact h.out,h.len,fun j b e1 => ?_,fun x' y' => ?_⟩
 · by_cases q:j = y
   · subst q
     rw [e] at e1
     cases e1
     rw [zd,Je hx]
   · have ne:b ≠ a := fun z => by
       subst z
       obtain ⟨h1,v1⟩ := List.getElem?_eq_some_iff.mp e
       obtain ⟨h2,v2⟩ := List.getElem?_eq_some_iff.mp e1
       exact q ((List.getElem_inj nd).mp (v2.trans v1.symm))
     rw [zq ne,Wk q]
     exact h.row j b e1
 · unfold putG
   split
   · exact .inr ⟨c,hc,rfl⟩
   · exact h.one x' y'
noncomputable def Cov (bs:List Bx) (i:Nat) (g:Nat -> Nat -> List Nat):Prop := ∀ (j:Nat) (b:Bx),j < i -> bs[j]? = some b -> ∀ x y:Nat,inB b x y = true -> g x y ≠ []
theorem YV {g:Nat -> Nat -> List Nat} {x y x' y' c:Nat} (h:g x' y' ≠ []):putG g x y [c] x' y' ≠ [] := by
 unfold putG
 split
 · exact List.cons_ne_nil _ _
 · exact h
theorem QA {i:Nat} (h:i < 24):∃ c ∈ letters,atI letters (i:Int) = some c := by
 have l:i < letters.length := by simpa [letters] using h
 exact ⟨letters[i],List.getElem_mem l,zH (List.getElem?_eq_getElem l)⟩
theorem Wl:("abcdefghijklmnopqrstuvwx" : Str) = txt letters := by decide +kernel
noncomputable def rowT (W:Nat) (g:Nat -> Nat -> List Nat) (j:Nat):List Nat := ((List.range W).map fun x => g x j).flatten
theorem jK {g:Nat -> Nat -> List Nat} {j:Nat}:∀ {W:Nat},(∀ x:Nat,x < W -> ∃ c ∈ letters,g x j = [c]) -> (rowT W g j).length = W /\ ∀ c ∈ rowT W g j,c ∈ letters
 | 0,_ => ⟨rfl,fun c hc => absurd hc List.not_mem_nil⟩
 | W + 1,h => by
   obtain ⟨h1,h2⟩ := jK (g := g) (j := j) (W := W) fun x hx => h x (by omega)
   obtain ⟨c,hc,e⟩ := h W (by omega)
   have e2:rowT (W + 1) g j = rowT W g j ++ [c] := by
     unfold rowT
     rw [List.range_succ,List.map_append,List.flatten_append,List.map_singleton,e]
     rfl
   rw [e2]
   refine ⟨by rw [List.length_append,h1]; rfl,fun d hd => ?_⟩
   rcases List.mem_append.mp hd with hd | hd
   · exact h2 d hd
   · rw [List.mem_singleton.mp hd]; exact hc
noncomputable def YW:Sp := fun vs H Q _ => ∃ (W G:Nat) (lb:Addr) (us:List V) (bs:List Bx),vs = [.int (W:Nat),.int (G:Nat),.ref lb] /\ H lb = some (.lst us) /\ zm H us bs /\ bs.length <= 24 /\ z0 bs W G /\ W <= 100 /\ G <= 100 /\
 ∀ (l:Addr) (rows:List (List Nat)) (H':Hp),Same H H' -> H l = none -> H' l = some (.lst (txs rows)) -> rows.length = G -> (∀ r ∈ rows,r.length = W /\ ∀ c ∈ r,c ∈ letters) -> Q (.ref l) H'
section
variable {P:Program} {w:World} {K:PySem.W.Frag} {mg:Str -> Option Value} {base:Heap}
theorem xL:zC ["wide","high","boxes","rows","y","k","left","top","right","below","x"] ["wide","high","boxes"] (zl ji) := ⟨rfl,rfl,rfl,by decide +kernel,rfl,by decide +kernel,by decide +kernel⟩
theorem J9 {f:Addr} {fd:FuncData} (F:Fun K "_law_rows" "_law_rows" ji f fd) (tl:mg "len" = none) (tr:mg "range" = none):FnOk P w K mg base CX0 1 f fd ["wide","high","boxes"] YW := by
 refine F.ok xL (fun vs H Q E h => ?_) (fun cdv A outer s H vs Q E hr h => ?_)
 · obtain ⟨W,G,lb,us,bs,rfl,_⟩ := h
   rfl
 · obtain ⟨W,G,lb,us,bs,rfl,hl,hB,h24,T,w1,g1,q⟩ := h
   refine ⟨_,(zg (jk (i := 3) (Nc := ["y","wide"]) (ix := [none,some 0]) xL.nd rfl (Or.inl rfl) rfl rfl (by exact (yX rfl tr (za (pv 1) zb))) (fun _ _ _ _ _ => (zp (i := 0) (by show (["y","wide"]:List Str).Nodup; decide +kernel) rfl (Or.inl rfl))) (fun _ _ _ _ _ => yK) (fun _ _ _ _ _ => (zk zao (zX (za zP zb)) (pv 1))))
     (zg (yF PassesOwn.never rfl (yX rfl tr (za (zo zI (by rfl) tl PySem.boot_len (za (pv 2) zb)) zb)) (zp (i := 5) xL.nd rfl (Or.inl rfl))
     (zg (xi (zn zv (pv 2) (pv 5) (fun _ _ => rfl)) (xI rfl (zE (zp (i := 6) xL.nd rfl (Or.inl rfl)) (zE (zp (i := 7) xL.nd rfl (Or.inl rfl)) (zE (zp (i := 8) xL.nd rfl (Or.inl rfl)) (zE (zp (i := 9) xL.nd rfl (Or.inl rfl)) xm))))))
       (zh (yF PassesOwn.never rfl (qz rfl tr (za (pv 7) (za (pv 9) zb))) (zp (i := 4) xL.nd rfl (Or.inl rfl))
       (zh (yF PassesOwn.never rfl (qz rfl tr (za (pv 6) (za (pv 8) zb))) (zp (i := 10) xL.nd rfl (Or.inl rfl))
         (zh (xi (zn Zp zP (pv 5) (fun _ _ => rfl)) (qy (zn zv (pv 3) (pv 4) (fun _ _ => rfl)) (pv 10) set_list)))))))))
     (zh (zw (yW (Nc := ["row"]) (ix := [none]) rfl rfl (by refine' yo ?zz; case zz => exact (pv 3)) (fun _ _ _ _ _ => (zp (i := 0) (by show (["row"]:List Str).Nodup; decide +kernel) rfl (Or.inl rfl))) (fun _ _ _ _ _ => yK) (fun _ _ _ _ _ => (YM (K := K) rfl PySem.F.plainAttrs_str PySem.F.slot_str_join PySem.F.type_str_join (Qz (K := K) rfl) zP (by exact (za (pv 0) zb))))))))),?_⟩
   have lu := hB.len
   refine ⟨_,rfl,_,rfl,by omega,by omega,?_⟩
   rw [Int.toNat_natCast]
   refine ZQ (lo := 0) (n := G) (fun i ys σ H1 => ∃ as:List Addr,ys = as.map V.ref /\ as.length = i /\ as.Nodup /\ (∀ b ∈ as,H b = none /\ H1 b = some (.lst (rowV W (fun _ _ => []) 0))) /\ Same H H1 /\ ∃ o,σ = [o,some (.int (W:Nat))])
     ⟨[],rfl,rfl,List.nodup_nil,fun b hb => absurd hb List.not_mem_nil,Same.refl _,none,rfl⟩ (fun i ys σ H1 hi h9 => by obtain ⟨as,e,l,_⟩ := h9; exact (by rw [e,List.length_map,l]; exact Nat.le_trans (show i <= 1000 by omega) (by decide))) ?_ ?_
   case refine_2 =>
     rintro i ys σ H1 hi ⟨as,rfl,las,nd,hb,S1,o,rfl⟩
     dsimp only [zG,tYes]
     refine iteT ⟨by show 1 <= sizeLine; decide,fun p0 np0 => ⟨_,rfl,p0,_,_,rfl,rfl,zd,by omega,by omega,?_,fun p1 np1 => ?_⟩⟩
     · rw [List.length_singleton,Int.toNat_natCast,Nat.one_mul]
       exact Nat.le_trans w1 (by decide)
     have eb:(List.replicate (Int.toNat (W:Int)) [V.str ""]).flatten = rowV W (fun _ _ => []) 0 := by
       rw [Int.toNat_natCast]
       exact blanks W
     rw [eb]
     have S2 := (zf (o := .lst [V.str ""]) np0).trans (zf (o := .lst (rowV W (fun _ _ => []) 0)) np1)
     have fp1 := (zf (o := .lst [V.str ""]) np0).free np1
     refine ⟨as ++ [p1],by rw [List.map_append]; rfl,by rw [List.length_append,las]; rfl,?_,fun b hb' => ?_,S1.trans S2,_,rfl⟩
     · refine List.nodup_append.mpr ⟨nd,List.nodup_cons.mpr ⟨List.not_mem_nil,List.nodup_nil⟩,fun b hb1 c hc z => ?_⟩
       rw [List.mem_singleton.mp hc] at z
       have := (hb b hb1).2
       rw [z,fp1] at this
       cases this
     · rcases List.mem_append.mp hb' with z | z
       · exact ⟨(hb b z).1,S2 _ _ (hb b z).2⟩
       · rw [List.mem_singleton.mp z]
         exact ⟨S1.free fp1,zd⟩
   rintro ys σ H1 ⟨as,rfl,las,nd,hb,S1,o,rfl⟩ lr nlr
   have S2 := zf (o := .lst (as.map V.ref)) nlr
   have fr:∀ b ∈ as,H b = none /\ b ≠ lr := fun b hb1 => ⟨(hb b hb1).1,zy (hb b hb1).2 nlr⟩
   have flr := S1.free nlr
   have R0:Grid H (upd H1 lr (.lst (as.map V.ref))) lr as W G (fun _ _ => []) :=
     ⟨S1.trans S2,zd,las,fun j b e1 => S2 _ _ (hb b (List.mem_of_getElem? e1)).2,fun x y => .inl rfl⟩
   generalize upd H1 lr (.lst (as.map V.ref)) = H2 at R0
   try dsimp only
   refine ⟨_,rfl,lb,_,rfl,.inl (SqL.of (R0.same _ _ hl)),_,rfl,by omega,by omega,?_⟩
   rw [Int.toNat_natCast]
   refine yP (lo := 0) (n := us.length) (fun i σ H3 => ∃ (g:Nat -> Nat -> List Nat) (o4 o5 o6 o7 o8 o9 o10:Option V),σ = [some (.int (W:Nat)),some (.int (G:Nat)),some (.ref lb),some (.ref lr),o4,o5,o6,o7,o8,o9,o10] /\ Grid H H3 lr as W G g /\ Cov bs i g)
     ⟨_,_,_,_,_,_,_,_,rfl,R0,fun j b hj => absurd hj (Nat.not_lt_zero _)⟩ ?_ ?_
   · rintro i σ H3 hi ⟨g,o4,o5,o6,o7,o8,o9,o10,rfl,R3,C3⟩
     have hib:i < bs.length := by omega
     have eb:bs[i]? = some bs[i] := List.getElem?_eq_getElem hib
     generalize bs[i] = b at eb
     obtain ⟨v,hv,hbx⟩ := hB.get eb
     obtain ⟨p,rfl,hp⟩ := hbx
     have ok := T.wf b (List.mem_of_getElem? eb)
     obtain ⟨c,hc,ec⟩ := QA (show i < 24 by omega)
     dsimp only [zG]
     refine wC (xE (zc rfl) (zc (v := .int (0 + (i:Int))) rfl) (SqL.of (R3.same _ _ hl)) (by rw [Int.zero_add]; exact zH hv)) (z6 (R3.same _ _ hp) _) ?_
     have b0 := ok.h0
     have b1 := ok.h1
     have b2 := ok.h2
     have b3 := ok.v0
     have b4 := ok.v1
     have b5 := ok.v2
     refine ⟨_,rfl,_,rfl,b.t,b.b,rfl,⟨by omega,by omega,by omega,by omega⟩,yP (lo := b.t) (n := (b.b - b.t).toNat) (fun y σ H4 => ∃ (g:Nat -> Nat -> List Nat) (o4 o10:Option V),σ = [some (.int (W:Nat)),some (.int (G:Nat)),some (.ref lb),some (.ref lr),o4,some (.int (0 + (i:Int))),some (.int b.l),some (.int b.t),some (.int b.r),some (.int b.b),o10] /\ Grid H H4 lr as W G g /\ Cov bs i g /\
         ∀ x' y':Nat,b.t <= y' -> (y':Int) < b.t + y -> b.l <= x' -> (x':Int) < b.r -> g x' y' ≠ [])
       ⟨g,_,_,rfl,R3,C3,fun x' y' h1 h2 => by omega⟩ ?_ ?_⟩
     · rintro y σ H4 hy ⟨g,o4,o10,rfl,R4,C4,D4⟩
       obtain ⟨yy,eyy⟩ := Int.eq_ofNat_of_zero_le (show 0 <= b.t + (y:Int) by omega)
       have yl:yy < as.length := by rw [las]; omega
       have ea:as[yy]? = some as[yy] := List.getElem?_eq_getElem yl
       generalize as[yy] = ra at ea
       dsimp only [zG]
       refine ⟨_,rfl,_,rfl,b.l,b.r,rfl,⟨by omega,by omega,by omega,by omega⟩,yP (lo := b.l) (n := (b.r - b.l).toNat) (fun x σ H5 => ∃ (g:Nat -> Nat -> List Nat) (o10:Option V),σ = [some (.int (W:Nat)),some (.int (G:Nat)),some (.ref lb),some (.ref lr),some (.int (b.t + (y:Int))),some (.int (0 + (i:Int))),some (.int b.l),some (.int b.t),some (.int b.r),some (.int b.b),o10] /\ Grid H H5 lr as W G g /\ Cov bs i g /\
           (∀ x' y':Nat,b.t <= y' -> (y':Int) < b.t + y -> b.l <= x' -> (x':Int) < b.r -> g x' y' ≠ []) /\ ∀ x':Nat,b.l <= x' -> (x':Int) < b.l + x -> g x' yy ≠ [])
         ⟨g,_,rfl,R4,C4,D4,fun x' h1 h2 => by omega⟩ ?_ ?_⟩
       · rintro x σ H5 hx ⟨g,o10,rfl,R5,C5,D5,E5⟩
         obtain ⟨xx,exx⟩ := Int.eq_ofNat_of_zero_le (show 0 <= b.l + (x:Int) by omega)
         have xW:xx < W := by omega
         have at1:atI (as.map V.ref) (b.t + (y:Int)) = some (.ref ra) := by
           rw [eyy]
           refine zH ?_
           rw [List.getElem?_map,ea]
           rfl
         have ixE:ixN (rowV W g yy).length (b.l + (x:Int)) = some xx := by
           rw [Jf,exx]
           unfold ixN
           rw [if_pos (by omega),if_pos (by omega)]
           rfl
         dsimp only [zG]
         refine ⟨_,rfl,letters,_,c,by rw [Wl],rfl,by decide,by rw [Int.zero_add]; exact ec,_,rfl,_,rfl,lr,_,_,.ref ra,rfl,rfl,SqL.of R5.out,at1,_,rfl,ra,_,_,xx,rfl,rfl,R5.row yy ra ea,ixE,?_⟩
         refine ⟨_,_,rfl,R5.put nd fr ea xW hc,fun j b' hj e x' y' z => YV (C5 j b' hj e x' y' z),fun x' y' h1 h2 h3 h4 => YV (D5 x' y' h1 h2 h3 h4),fun x' h1 h2 => ?_⟩
         by_cases e:x' = xx
         · unfold putG
           rw [if_pos ⟨e,rfl⟩]
           exact List.cons_ne_nil _ _
         · exact YV (E5 x' h1 (by omega))
       · rintro σ H5 ⟨g,o10,rfl,R5,C5,D5,E5⟩
         refine ⟨g,_,_,rfl,R5,C5,fun x' y' h1 h2 h3 h4 => ?_⟩
         by_cases e:y' = yy
         · rw [e]
           exact E5 x' h3 (by omega)
         · exact D5 x' y' h1 (by omega) h3 h4
     · rintro σ H4 ⟨g,o4,o10,rfl,R4,C4,D4⟩
       refine ⟨g,_,_,_,_,_,_,_,rfl,R4,fun j b' hj e x' y' z => ?_⟩
       by_cases ej:j = i
       · subst ej
         rw [eb] at e
         cases e
         obtain ⟨z1,z2,z3,z4⟩ := zT.mp z
         exact D4 x' y' z3 (by omega) z1 z2
       · exact C4 j b' (by omega) e x' y' z
   · rintro σ H3 ⟨g,o4,o5,o6,o7,o8,o9,o10,rfl,R3,C3⟩
     have full:∀ x y:Nat,x < W -> y < G -> ∃ c ∈ letters,g x y = [c] := fun x y hx hy => by
       obtain ⟨k,b,ek,ib,_⟩ := XS T (x := x) (y := y) (by omega) (by omega) (by omega) (by omega)
       have kl:k < us.length := by rw [lu]; exact (List.getElem?_eq_some_iff.mp ek).1
       rcases R3.one x y with z | z
       · exact absurd z (C3 k b kl ek x y ib)
       · exact z
     have lA:(as.map V.ref).length = G := by rw [List.length_map,las]
     dsimp only
     refine ⟨_,rfl,lr,rfl,⟨_,SqL.of R3.out⟩,yI (K := K) (a := lr) (xs := as.map V.ref) (fun i ys σ H4 => ys = txs ((List.range i).map (rowT W g)) /\ H4 = H3 /\ ∃ o,σ = [o]) ⟨rfl,rfl,none,rfl⟩
       (fun i ys σ H4 hi h9 => by obtain ⟨e,e2,_⟩ := h9; exact (⟨by rw [e]; unfold txs; rw [List.length_map,List.length_map,List.length_range]; exact Nat.le_trans (show _ <= 1000 by omega) (by decide),by rw [e2]; exact SqL.of R3.out⟩)) ?_ ?_⟩
     · rintro ys σ H4 ⟨rfl,rfl,_⟩ lf nlf
       rw [lA]
       refine q lf ((List.range G).map (rowT W g)) _ (R3.same.trans (zf nlf)) (R3.same.free nlf) zd (by rw [List.length_map,List.length_range]) fun r hr => ?_
       obtain ⟨j,hj,rfl⟩ := List.mem_map.mp hr
       exact jK fun x hx => full x j hx (List.mem_range.mp hj)
     · rintro i v ys σ H4 hv ⟨rfl,rfl,o,rfl⟩
       rw [List.getElem?_map] at hv
       obtain ⟨ra,ea,rfl⟩ := Option.map_eq_some_iff.mp hv
       have hi:i < G := by rw [<- las]; exact (List.getElem?_eq_some_iff.mp ea).1
       have h4 := R3.row i ra ea
       have rf := jK fun x hx => full x i hx hi
       dsimp only [zG,tYes]
       refine iteT ⟨rfl,_,rfl,ra,(List.range W).map (fun x => g x i),rfl,rfl,SqL.of (by rw [h4,List.map_map]; rfl),?_,?_,rfl,_,rfl⟩
       · have e:(((List.range W).map (fun x => g x i)).map List.length).sum = (rowT W g i).length := by
           unfold rowT
           rw [List.length_flatten]
         rw [e,rf.1]
         omega
       · unfold txs
         rw [List.range_succ,List.map_append,List.map_append]
         rfl
end
end _K4
namespace _K4
open PySem _L2 _Til _Pic
theorem txt_snoc (r:List Nat) (c:Nat):txt r ++ txt [c] = txt (r ++ [c]) := by
 refine Str.ext' ?_
 show (r.toArray ++ [c].toArray) = (r ++ [c]).toArray
 simp
noncomputable def few (l:List Nat):Prop := ∀ c ∈ l,c ∈ [97,98,99,100,32]
noncomputable def Zw:Sp := fun vs H Q _ => ∃ k:Int,vs = [.int k] /\ ∀ (l:Addr) (rows:List (List Nat)) (H':Hp),Same H H' -> H l = none -> H' l = some (.lst (txs rows)) -> rows.length <= 4 -> (∀ r ∈ rows,r.length <= 4 /\ few r) -> Q (.ref l) H'
theorem signs_at (i:Int):∃ l:List Nat,atI [V.str "ab",.str "abc",.str "abcd",.str "a b"] (i % 4) = some (.str (txt l)) /\ few l /\ 2 <= l.length /\ l.length <= 4 := by
 have e:i % 4 = 0 \/ i % 4 = 1 \/ i % 4 = 2 \/ i % 4 = 3 := by omega
 rcases e with e | e | e | e <;> rw [e]
 · exact ⟨[97,98],rfl,by unfold few; decide,by decide,by decide⟩
 · exact ⟨[97,98,99],rfl,by unfold few; decide,by decide,by decide⟩
 · exact ⟨[97,98,99,100],rfl,by unfold few; decide,by decide,by decide⟩
 · exact ⟨[97,32,98],rfl,by unfold few; decide,by decide,by decide⟩
section
variable {P:Program} {w:World} {K:PySem.W.Frag} {mg:Str -> Option Value} {base:Heap}
theorem y8:zC ["cell","wide","signs","rows","left","y","row","x"] ["cell"] (zl w4) := ⟨rfl,rfl,rfl,by decide +kernel,rfl,by decide +kernel,by decide +kernel⟩
theorem Jg {f:Addr} {fd:FuncData} (F:Fun K "_law_small" "_law_small" w4 f fd) (tl:mg "len" = none) (tr:mg "range" = none):FnOk P w K mg base CX0 1 f fd ["cell"] Zw := by
 refine F.ok y8 (fun vs H Q E h => ?_) (fun cdv A outer s H vs Q E hr h => ?_)
 · obtain ⟨k,rfl,_⟩ := h
   rfl
 · obtain ⟨k,rfl,q⟩ := h
   refine ⟨_,(zg (zt (i := 1) y8.nd rfl (Or.inl rfl) (zk zQ ze (zk zM (pv 0) ze)))
     (zg (zt (i := 2) y8.nd rfl (Or.inl rfl) (zn zv (zX (za zP (za zP (za zP (za zP zb))))) (zk zM (zk yw (pv 0) ze) ze) (fun _ _ => rfl)))
     (zg (zt (i := 3) y8.nd rfl (Or.inl rfl) (zX zb))
     (zg (zt (i := 4) y8.nd rfl (Or.inl rfl) (zk yw (pv 0) ze))
     (zg (yF PassesOwn.never rfl (yX rfl tr (za (zk zQ ze (zk zM (zk yw (pv 0) ze) ze)) zb)) (zp (i := 5) y8.nd rfl (Or.inl rfl))
     (zg (zt (i := 6) y8.nd rfl (Or.inl rfl) zP)
       (zg (yF PassesOwn.never rfl (yX rfl tr (za (pv 1) zb)) (zp (i := 7) y8.nd rfl (Or.inl rfl))
       (zg (zt (i := 6) y8.nd rfl (Or.inl rfl) (zk wg (pv 6) (zn Zp (pv 2) (zk zM (pv 4) (zo yd (by rfl) tl PySem.boot_len (za (pv 2) zb))) (fun _ _ => rfl))))
         (zh (zt (i := 4) y8.nd rfl (Or.inl rfl) (zk yw (pv 4) (zo yd (by rfl) tl PySem.boot_len (za (pv 2) zb)))))))
       (zh (xl (xc PySem.F.plainAttrs_list PySem.F.slot_list_append PySem.F.type_list_append xD (pv 3) (za (pv 6) zb)))))))
     (zh (zw (pv 3)))))))),?_⟩
   refine yx (v := .int (1 + k % 4)) (zY zx (wk (zc rfl) zx (by decide))) ?_
   obtain ⟨sl,hs,sf,s2,s4⟩ := signs_at (k / 16)
   refine ⟨by show 4 <= sizeLine; decide,fun l0 n0 => ?_⟩
   have S0 := zf (o := .lst [.str "ab",.str "abc",.str "abcd",.str "a b"]) n0
   refine ⟨_,rfl,_,_,rfl,rfl,⟨by decide,by decide⟩,_,_,rfl,rfl,by show (0:Int) < 4; decide,l0,_,_,_,rfl,rfl,SqL.of zd,hs,?_⟩
   dsimp only [zG]
   generalize upd H l0 (.lst [.str "ab",.str "abc",.str "abcd",.str "a b"]) = H1 at S0
   refine xG ⟨by show 0 <= sizeLine; decide,fun l n1 => ?_⟩
   have S1 := S0.trans (zf (o := .lst []) n1)
   have hl1:(upd H1 l (.lst [])) l = some (.lst []) := zd
   have nl:H l = none := S0.free n1
   generalize upd H1 l (.lst []) = H2 at S1 hl1
   refine yx (v := .int (k / 64)) (wk (zc rfl) zx ⟨by decide,by decide⟩) ?_
   obtain ⟨G,hG⟩ := Int.eq_ofNat_of_zero_le (show 0 <= 1 + k / 4 % 4 by omega)
   obtain ⟨W,hW⟩ := Int.eq_ofNat_of_zero_le (show 0 <= 1 + k % 4 by omega)
   have tlen:(txt sl).length <= sizeLine := by rw [zA]; exact Nat.le_trans s4 (by decide)
   refine ⟨_,rfl,_,_,rfl,rfl,⟨by decide,by decide⟩,_,_,rfl,rfl,by show (0:Int) < 4; decide,_,_,rfl,rfl,?_⟩
   dsimp only
   rw [hG,hW]
   refine ⟨_,rfl,by omega,by omega,?_⟩
   refine (yP (lo := 0) (n := G) (D := { nx := tRet (tVar 3) { nx := fun x H' => Q V.non H',rt := Q },rt := Q }) (fun i σ H' => ∃ (rows:List (List Nat)) (lf:Int) (o5 o6 o7:Option V),σ = [some (.int k),some (.int (W:Nat)),some (.str (txt sl)),some (.ref l),some (.int lf),o5,o6,o7] /\ Same H H' /\ H' l = some (.lst (txs rows)) /\ rows.length = i /\ ∀ r ∈ rows,r.length <= 4 /\ few r)
     ⟨[],_,none,none,none,rfl,S1,hl1,rfl,fun r hr => absurd hr List.not_mem_nil⟩ ?_ ?_)
   · rintro i σ H3 hi ⟨rows,lf,o5,o6,o7,rfl,S3,hl3,lr,ok⟩
     dsimp only [zG]
     refine yx (v := .str (txt [])) zx ?_
     refine ⟨_,rfl,_,rfl,by omega,by omega,yP (lo := 0) (n := W) (fun j σ H' => ∃ (r:List Nat) (lf:Int) (o7:Option V),σ = [some (.int k),some (.int (W:Nat)),some (.str (txt sl)),some (.ref l),some (.int lf),some (.int (0 + (i:Int))),some (.str (txt r)),o7] /\ H' = H3 /\ r.length = j /\ few r)
       ⟨[],lf,o7,rfl,rfl,rfl,fun c hc => absurd hc List.not_mem_nil⟩ ?_ ?_⟩
     · rintro j σ H' hj ⟨r,lf,o7,rfl,rfl,lj,fr⟩
       have p0 := Int.emod_nonneg lf (show ((txt sl).length:Int) ≠ 0 by rw [zA]; omega)
       have p1 := Int.emod_lt_of_pos lf (show (0:Int) < ((txt sl).length:Int) by rw [zA]; omega)
       obtain ⟨m,hm⟩ := Int.eq_ofNat_of_zero_le p0
       have lm:m < sl.length := by rw [hm,zA] at p1; omega
       have at1:atI sl (lf % ((txt sl).length:Int)) = some sl[m] := by
         rw [hm]
         exact zH (List.getElem?_eq_getElem lm)
       have cm:sl[m] ∈ sl := List.getElem_mem lm
       generalize sl[m] = c at at1 cm
       dsimp only [zG]
       refine ⟨_,rfl,_,rfl,_,rfl,_,rfl,_,rfl,tlen,_,_,rfl,rfl,by rw [zA]; omega,sl,_,c,rfl,rfl,by omega,at1,_,_,rfl,rfl,?_,?_⟩
       · rw [zA,zA]
         exact Nat.le_trans (show _ <= 100 by rw [List.length_singleton]; omega) (by decide)
       · have e:txt r ++ txt [c] = txt (r ++ [c]) := txt_snoc r c
         rw [e]
         refine ⟨_,rfl,_,rfl,_,rfl,tlen,_,_,rfl,rfl,?_,⟨r ++ [c],_,_,rfl,rfl,by rw [List.length_append,lj]; rfl,fun d hd => ?_⟩⟩
         · rw [zA]
           exact ⟨by omega,by omega⟩
         · rcases List.mem_append.mp hd with hd | hd
           · exact fr d hd
           · rw [List.mem_singleton.mp hd]
             exact sf c cm
     · rintro σ H' ⟨r,lf,o7,rfl,rfl,lj,fr⟩
       refine ⟨_,rfl,.inl ⟨rfl,_,SqL.of hl3⟩,_,rfl,l,_,_,rfl,rfl,hl3,?_,?_⟩
       · have:(txs rows).length = rows.length := List.length_map _
         rw [this]
         exact Nat.lt_of_le_of_lt (show _ <= 100 by omega) (by decide)
       · refine ⟨rows ++ [r],lf,_,_,_,rfl,yH S3 nl,?_,by rw [List.length_append,lr]; rfl,fun r' hr' => ?_⟩
         · rw [zd]
           unfold txs
           rw [List.map_append]
           rfl
         · rcases List.mem_append.mp hr' with hr' | hr'
           · exact ok r' hr'
           · rw [List.mem_singleton.mp hr']
             exact ⟨by omega,fr⟩
   · rintro σ H3 ⟨rows,lf,o5,o6,o7,rfl,S3,hl3,lr,ok⟩
     exact ⟨_,rfl,q l rows H3 S3 nl hl3 (by omega) ok⟩
end
end _K4
namespace _L2
open PySem PySem.Spec PyProof.Rows
theorem Wm {l:List Nat} {its:Array Value} (h:ItemsOf (SignAt (txt l)) its l.length):Vals (l.map fun c => V.str (txt [c])) its.toList := by
 obtain ⟨h1,h2⟩ := h
 have key:∀ (m:List Nat) (us:List Value),us.length = m.length -> (∀ (j:Nat) v,us[j]? = some v -> ∃ c u,m[j]? = some c /\ v = .str ⟨#[c]⟩ u) -> Vals (m.map fun c => V.str (txt [c])) us := by
   intro m
   induction m with
   | nil =>
     intro us e _
     obtain rfl:us = [] := List.length_eq_zero_iff.mp e
     exact .nil
   | cons c m ih =>
     intro us e h
     cases us with
     | nil => cases e
     | cons u us =>
       refine .cons ?_ (ih us (Nat.succ.inj e) fun j v hv => h (j + 1) v hv)
       obtain ⟨c',t,ec,rfl⟩ := h 0 u rfl
       obtain rfl := Option.some.inj ec
       exact ⟨t,rfl⟩
 refine key l its.toList (by rw [Array.length_toList,h1]) fun j v hv => ?_
 obtain ⟨c,u,hc,e⟩ := h2 j v (by rw [<- Array.getElem?_toList]; exact hv)
 exact ⟨c,u,by simpa [txt] using hc,e⟩
section
variable {X:Cx}
theorem qx (hc:X.calm = true):yr X (.type "list") (fun xs H Q => ∃ l:List Nat,xs = [.str (txt l)] /\ l.length <= 1000000 /\ ∀ p,H p = none -> Q (.ref p) (upd H p (.lst (l.map fun c => V.str (txt [c]))))) := by
 intro pins s σ H xs us Q I r h
 obtain ⟨l,rfl,hn,q⟩ := h
 obtain ⟨u,rfl,t,rfl⟩ := vals1 r
 have hn:l.length <= sizeLine := Nat.le_trans hn (by decide)
 refine call_list_str (I.ok.hd hc) _ _ (fun h' tk acc c' kp hl it => ?_) (by simpa [txt] using hn)
 have it:ItemsOf (SignAt (txt l)) acc l.length := by simpa [txt] using it
 exact ⟨.ref _,_,I.laid (t' := tk) (o := .lst (l.map fun c => V.str (txt [c]))) kp (Nat.le_refl _) ⟨by rw [List.length_map]; exact hn,acc.toList,c',Wm it,by simpa using hl⟩,rfl,q _ (I.hok.fresh (Nat.le_refl _))⟩
end
section
variable {X:Cx} {es:List Expr} {te:TE} {t:TA} {tg:Expr}
theorem b_cL {a:List Expr} {c:Pos} (ha:Bx (PE X (.List a c) te)) (hr:Bx (PA X es t)):Bx (PA X (.List a c :: es) (zB te t)) := ⟨zbf ha.get hr.get⟩
theorem zaa {f:Expr} {a:List Expr} {k:List Keyword} {c:Pos} (ha:Bx (PE X (.Call f a k c) te)) (hr:Bx (PA X es t)):Bx (PA X (.Call f a k c :: es) (zB te t)) := ⟨za ha.get hr.get rfl⟩
theorem zaV {a b:Expr} {c:Pos} (ha:Bx (PE X (.Subscript a b c) te)) (hr:Bx (PA X es t)):Bx (PA X (.Subscript a b c :: es) (zB te t)) := ⟨za ha.get hr.get rfl⟩
theorem wO {pos:Pos} (h:Bx (PA X es t)):Bx (PE X (.List es pos) (tLst t)) := ⟨zX h.get⟩
theorem zbi {pos:Pos} (h:Bx (PA X es t)):Bx (PI X tg (.List es pos) (XM X.K (tLst t))) := ⟨yo (zX h.get)⟩
end
end _L2
namespace _K4
open PySem _L2 _Til PySem.W _Pic
theorem jr {K:PySem.W.Frag} {T:Addr} {H H':Hp} {a:Addr} {xs:List V} (S:But T H H') (hT:∃ ps,H T = some (.tbl ps)) (h:SqL K H a xs):SqL K H' a xs := by
 obtain ⟨ps,hT⟩ := hT
 rcases h with (h | ⟨o,h⟩) | h
 · exact .inl (.inl (S _ _ (y9 h hT (by intro z; cases z)) h))
 · exact .inl (.inr ⟨o,S _ _ (y9 h hT (by intro z; cases z)) h⟩)
 · exact .inr h
theorem ww {T:Addr} {q:Str} {p:Pos} {H:Hp} (h:yJ T q p H):∃ ps,H T = some (.tbl ps) := by
 obtain ⟨ps,h,_⟩ := h
 exact ⟨ps,h⟩
theorem qc {T:Addr} {H H':Hp} {a:Addr} {xs:List V} (S:But T H H') (hT:∃ ps,H T = some (.tbl ps)) (h:H a = some (.lst xs)):H' a = some (.lst xs) := by
 obtain ⟨ps,hT⟩ := hT
 exact S _ _ (y9 h hT (by intro z; cases z)) h
theorem YX (ns:List Int) (lo hi:Option Int):∃ ms:List Int,cutV (ns.map V.int) lo hi = ms.map V.int := by
 unfold cutV
 exact ⟨_,by rw [<- List.map_drop,<- List.map_take]⟩
theorem jL {A:List Nat} {n:Nat} {rows:List (List Nat)} (h:Of A n rows) (hl:rows.length <= 1000) (hn:n <= 1000) (hA:(dd A).length < 64):Small rows :=
 ⟨hl,fun r hr => Nat.le_trans (h r hr).1 hn,Nat.lt_of_le_of_lt (Qi fun c hc => by
   obtain ⟨r,hr,hc⟩ := List.mem_flatten.mp hc
   exact (h r hr).2 c hc) hA⟩
theorem zab:("abcdefghijklmnopqrstuvwxyz" : Str) = txt (abc 26) := by decide +kernel
theorem YY (l:List Nat):(l.map fun c => V.str (txt [c])) = txs (l.map fun c => [c]) := by
 unfold txs
 rw [List.map_map]
 rfl
noncomputable def NoP (H:Hp) (x:V):Prop := ∃ (a:Addr) (rows:List (List Nat)),x = .ref a /\ H a = some (.lst (txs rows)) /\ Small rows /\ ¬ yf rows
theorem NoP.same {H H':Hp} {x:V} (S:Same H H') (h:NoP H x):NoP H' x := by
 obtain ⟨a,rows,e,h,r⟩ := h
 exact ⟨a,rows,e,S _ _ h,r⟩
noncomputable def XH:TE := tLst (zB (tLst tNil) (zB (tLst (zB (tC (V.str "")) tNil)) (zB (tLst (zB (tC (V.str "")) (zB (tC (V.str "")) tNil))) (zB (tLst (zB (tSl rSlS (tVar 7) Xs (Jk (tC (V.int 25)))) tNil))
 (zB (tCB (fun xs H Q => ∃ l:List Nat,xs = [.str (txt l)] /\ l.length <= 1000000 /\ ∀ p,H p = none -> Q (.ref p) (upd H p (.lst (l.map fun c => V.str (txt [c]))))) (zB (tVar 7) tNil))
 (zB (tLst (zB (tC (V.str "a")) (zB (tC (V.str "")) tNil))) (zB (tLst (zB (tC (V.str "ab")) (zB (tC (V.str "ba")) tNil))) (zB (tLst (zB (tC (V.str "aba")) tNil)) (zB (tLst (zB (tC (V.str "")) (zB (tC (V.str "a")) tNil))) tNil)))))))))
theorem xu {H:Hp} {l:Addr} {vs:List V} (rows:List (List Nat)) (e:vs = txs rows) (h:H l = none) (s:Small rows) (n:¬ yf rows):NoP (upd H l (.lst vs)) (.ref l) := ⟨l,rows,rfl,by rw [<- e]; exact zd,s,n⟩
theorem y6 {H:Hp} {l:Addr} {xs:List V} {o:HO} (h:H l = none) (a:∀ x ∈ xs,NoP H x) (b:NoP (upd H l o) (.ref l)):∀ x ∈ xs ++ [.ref l],NoP (upd H l o) x := fun x hx => by
 rcases List.mem_append.mp hx with m | m
 · exact (a x m).same (zf h)
 · rw [List.mem_singleton.mp m]; exact b
theorem yN {rows:List (List Nat)} (h:(decide (rows.length <= 1000) && rows.all (fun r => decide (r.length <= 1000)) && decide ((dd rows.flatten).length < 64)) = true):Small rows := by
 rw [Bool.and_eq_true,Bool.and_eq_true] at h
 exact ⟨of_decide_eq_true h.1.1,fun r hr => of_decide_eq_true (List.all_eq_true.mp h.1.2 r hr),of_decide_eq_true h.2⟩
theorem QB {o0 o1 o2 o3 o4 o5 o6 o8:Option V} {H:Hp} {Q:VK} (q:∀ (l:Addr) (xs:List V) (H':Hp),Same H H' -> H' l = some (.lst xs) -> (∀ x ∈ xs,NoP H' x) -> Q (.ref l) H') :
   XH [o0,o1,o2,o3,o4,o5,o6,some (.str (txt (abc 26))),o8] H Q := by
 refine ⟨by show 0 <= sizeLine; decide,fun l1 n1 => ?_⟩
 have a1 := y6 (xs := []) (o := .lst []) n1 (fun x hx => absurd hx List.not_mem_nil) (xu [] rfl n1 (yN rfl) no_1)
 have S1 := zf (o := .lst []) n1
 generalize upd H l1 (.lst []) = H1 at a1 S1 ⊢
 refine ⟨by show 1 <= sizeLine; decide,fun l2 n2 => ?_⟩
 have a2 := y6 n2 a1 (xu (vs := [.str ""]) [[]] rfl n2 (yN rfl) no_2)
 have S2 := S1.trans (zf (o := .lst [.str ""]) n2)
 clear a1 S1
 generalize upd H1 l2 (.lst [.str ""]) = H2 at a2 S2 ⊢
 refine ⟨by show 2 <= sizeLine; decide,fun l3 n3 => ?_⟩
 have a3 := y6 n3 a2 (xu (vs := [.str "",.str ""]) [[],[]] rfl n3 (yN rfl) no_3)
 have S3 := S2.trans (zf (o := .lst [.str "",.str ""]) n3)
 clear a2 S2
 generalize upd H2 l3 (.lst [.str "",.str ""]) = H3 at a3 S3 ⊢
 refine ⟨_,rfl,_,rfl,_,rfl,by decide,by show 1 <= sizeLine; decide,fun l4 n4 => ?_⟩
 have a4 := y6 n4 a3 (xu (vs := [.str (txt (cutN (abc 26) none (some 25)))]) [abc 25] (by decide +kernel) n4 (yN (by decide +kernel)) no_4)
 have S4 := S3.trans (zf (o := .lst [.str (txt (cutN (abc 26) none (some 25)))]) n4)
 clear a3 S3
 generalize upd H3 l4 (.lst [.str (txt (cutN (abc 26) none (some 25)))]) = H4 at a4 S4 ⊢
 refine ⟨_,rfl,abc 26,rfl,by decide,fun l5 n5 => ?_⟩
 have a5 := y6 n5 a4 (xu (vs := (abc 26).map fun c => V.str (txt [c])) ((abc 26).map fun c => [c]) (YY _) n5 (yN (by decide +kernel)) no_5)
 have S5 := S4.trans (zf (o := .lst ((abc 26).map fun c => V.str (txt [c]))) n5)
 clear a4 S4
 generalize upd H4 l5 (.lst ((abc 26).map fun c => V.str (txt [c]))) = H5 at a5 S5 ⊢
 refine ⟨by show 2 <= sizeLine; decide,fun l6 n6 => ?_⟩
 have a6 := y6 n6 a5 (xu (vs := [.str "a",.str ""]) [[97],[]] rfl n6 (yN rfl) no_6)
 have S6 := S5.trans (zf (o := .lst [.str "a",.str ""]) n6)
 clear a5 S5
 generalize upd H5 l6 (.lst [.str "a",.str ""]) = H6 at a6 S6 ⊢
 refine ⟨by show 2 <= sizeLine; decide,fun l7 n7 => ?_⟩
 have a7 := y6 n7 a6 (xu (vs := [.str "ab",.str "ba"]) [[97,98],[98,97]] rfl n7 (yN rfl) no_7)
 have S7 := S6.trans (zf (o := .lst [.str "ab",.str "ba"]) n7)
 clear a6 S6
 generalize upd H6 l7 (.lst [.str "ab",.str "ba"]) = H7 at a7 S7 ⊢
 refine ⟨by show 1 <= sizeLine; decide,fun l8 n8 => ?_⟩
 have a8 := y6 n8 a7 (xu (vs := [.str "aba"]) [[97,98,97]] rfl n8 (yN rfl) no_8)
 have S8 := S7.trans (zf (o := .lst [.str "aba"]) n8)
 clear a7 S7
 generalize upd H7 l8 (.lst [.str "aba"]) = H8 at a8 S8 ⊢
 refine ⟨by show 2 <= sizeLine; decide,fun l9 n9 => ?_⟩
 have a9 := y6 n9 a8 (xu (vs := [.str "",.str "a"]) [[],[97]] rfl n9 (yN rfl) no_9)
 have S9 := S8.trans (zf (o := .lst [.str "",.str "a"]) n9)
 clear a8 S8
 generalize upd H8 l9 (.lst [.str "",.str "a"]) = H9 at a9 S9 ⊢
 refine ⟨by show 9 <= sizeLine; decide,fun l nl => ?_⟩
 exact q l _ _ (S9.trans (zf nl)) zd fun x hx => (a9 x hx).same (zf nl)
theorem zac {K:PySem.W.Frag} {tl:TE} {g:TG} {tb u:TS} {D:Ends} {σ:St} {H:Hp} (h:∀ Q:VK,(∀ (l:Addr) (xs:List V) (H':Hp),Same H H' -> H' l = some (.lst xs) -> (∀ x ∈ xs,NoP H' x) -> Q (.ref l) H') -> tl σ H Q)
   (k:∀ (l:Addr) (xs:List V) (H1:Hp),Same H H1 -> H1 l = some (.lst xs) -> (∀ x ∈ xs,NoP H1 x) -> ∃ Pv:Nat -> St -> Hp -> Prop,Pv 0 σ H1 /\ (∀ i σ H,i <= xs.length -> Pv i σ H -> SqL K H l xs) /\
     (∀ i x σ H,xs[i]? = some x -> Pv i σ H -> g x σ H fun σ2 H2 => tb { { D with nx := u D } with nx := Pv (i + 1),ct := Pv (i + 1),bk := u D } σ2 H2) /\ ∀ σ H,Pv xs.length σ H -> u D σ H):tSeq (tFor (XM K tl) g tb) u D σ H :=
 h _ fun l xs H1 S a b => by
   obtain ⟨Pv,p0,p1,p2,p3⟩ := k l xs H1 S a b
   exact ⟨l,rfl,⟨xs,SqL.of a⟩,wx (D := { D with nx := u D }) Pv p0 p1 p2 p3⟩
noncomputable def Wn (K:PySem.W.Frag) (T T2:Addr):Sp := fun vs H Q _ => ∃ (a:Addr) (ns:List Int),vs = [.ref a] /\ SqL K H a (ns.map V.int) /\ H T = some (.tbl #[]) /\ H T2 = some (.tbl #[]) /\ ∀ H',Q (.bl true) H'
section
variable {P:Program} {w:World} {K:PySem.W.Frag} {mg:Str -> Option Value} {base:Heap}
theorem wp:zC ["script","xs","ys","boxes","rows","k","cell","many","thing"] ["script"] (zl sLaw) := ⟨rfl,rfl,rfl,by decide +kernel,rfl,by decide +kernel,by decide +kernel⟩
theorem zaW {f T T2 fCe fLn fLa fGd fRs fEi fSp fSm fRf:Addr} {fd dCe dLn dLa dGd dRs dEi dSp dSm dRf:FuncData} (F:Fun K "law" "law" sLaw f fd) (tr:mg "range" = none) (tlist:mg "list" = none) (hTT:T2 ≠ T)
   (Ce:Callee P w K mg base CX0 2 "_law_cell" fCe dCe ["script","k"] (jS K)) (Ln:Callee P w K mg base CX0 3 "_law_lines" fLn dLn ["script","first","many","most"] (Zg K))
   (La:Callee P w K mg base CX0 4 "_law_laid" fLa dLa ["boxes","xs","ys"] (Yw T)) (Gd:Callee P w K mg base CX0 2 "_law_grid" fGd dGd ["cells","many"] (Yt K))
   (Rs:Callee P w K mg base CX0 1 "_law_rows" fRs dRs ["wide","high","boxes"] YW) (Ei:Callee P w K mg base CX0 7 "_law_either" fEi dEi ["rows"] (jJ T2))
   (Sp:Callee P w K mg base CX0 1 "_law_spoilt" fSp dSp ["rows","cell"] Zv) (Sm:Callee P w K mg base CX0 1 "_law_small" fSm dSm ["cell"] Zw)
   (Rf:Callee P w K mg base CX0 6 "_law_refused" fRf dRf ["rows"] wM):FnOk P w K mg base CX0 8 f fd ["script"] (Wn K T T2) := by
 refine F.ok wp (fun vs H Q E h => ?_) (fun cdv A outer s H vs Q E hr h => ?_)
 · obtain ⟨a,ns,rfl,_⟩ := h
   rfl
 · obtain ⟨a,ns,rfl,hS,hT,hT2,q⟩ := h
   refine ⟨_,(zg (zt (i := 1) wp.nd rfl (Or.inl rfl) (zF Ln.ok (hr.mono (show 3 <= 7 by decide)) rfl Ln.bound Ln.kp Ln.bd .nil zV (za (pv 0) (za ze (za ze (za ze zb))))))
     (zg (zt (i := 2) wp.nd rfl (Or.inl rfl) (zF Ln.ok (hr.mono (show 3 <= 7 by decide)) rfl Ln.bound Ln.kp Ln.bd .nil zV (za (pv 0) (za ze (za ze (za ze zb))))))
     (zg (zt (i := 3) wp.nd rfl (Or.inl rfl) (zF La.ok (hr.mono (show 4 <= 7 by decide)) rfl La.bound La.kp La.bd .nil zV (za (zF Gd.ok (hr.mono (show 2 <= 7 by decide)) rfl Gd.bound Gd.kp Gd.bd .nil zV (za (yg xN (pv 0) (yc ze) (yc ze)) (za ze zb))) (za (pv 1) (za (pv 2) zb)))))
     (zg (zt (i := 4) wp.nd rfl (Or.inl rfl) (zF Rs.ok (hr.mono (show 1 <= 7 by decide)) rfl Rs.bound Rs.kp Rs.bd .nil zV (za (zn zv (pv 1) (qU wQ ze) (fun _ _ => rfl)) (za (zn zv (pv 2) (qU wQ ze) (fun _ _ => rfl)) (za (pv 3) zb)))))
     (zg (zU (yz (yu (zF Ei.ok hr rfl Ei.bound Ei.kp Ei.bd .nil zV (za (pv 4) zb))))
     (zh (zw yT))
     zO)
     (zg (yF PassesOwn.never rfl (yX rfl tr (za ze zb)) (zp (i := 5) wp.nd rfl (Or.inl rfl))
     (zh (zU (yz (yu (zF Ei.ok hr rfl Ei.bound Ei.kp Ei.bd .nil zV (za (zF Sp.ok (hr.mono (show 1 <= 7 by decide)) rfl Sp.bound Sp.kp Sp.bd .nil zV (za (pv 4) (za (zF Ce.ok (hr.mono (show 2 <= 7 by decide)) rfl Ce.bound Ce.kp Ce.bd .nil zV (za (pv 0) (za (pv 5) zb))) zb))) zb))))
       (zh (zw yT))
       zO)))
     (zg (yF PassesOwn.never rfl (yo (yg xN (pv 0) (yc ze) (yc ze))) (zp (i := 6) wp.nd rfl (Or.inl rfl))
     (zh (zU (yz (yu (zF Ei.ok hr rfl Ei.bound Ei.kp Ei.bd .nil zV (za (zF Sm.ok (hr.mono (show 1 <= 7 by decide)) rfl Sm.bound Sm.kp Sm.bd .nil zV (za (pv 6) zb)) zb))))
       (zh (zw yT))
       zO)))
     (zg (zt (i := 7) wp.nd rfl (Or.inl rfl) zP)
     (zg (yF PassesOwn.never rfl (by exact (zbi (b_cL (wO wn) (b_cL (wO (b_cC ⟨zP⟩ wn)) (b_cL (wO (b_cC ⟨zP⟩ (b_cC ⟨zP⟩ wn))) (b_cL (wO (zaV ⟨(yg wI (pv 7) y7 (yc ze))⟩ wn)) (zaa ⟨by exact (xC (qx rfl) rfl tlist PyProof.Rows.boot_list (za (pv 7) zb))⟩ (b_cL (wO (b_cC ⟨zP⟩ (b_cC ⟨zP⟩ wn))) (b_cL (wO (b_cC ⟨zP⟩ (b_cC ⟨zP⟩ wn))) (b_cL (wO (b_cC ⟨zP⟩ wn)) (b_cL (wO (b_cC ⟨zP⟩ (b_cC ⟨zP⟩ wn))) wn)))))))))).get) (zp (i := 8) wp.nd rfl (Or.inl rfl))
     (zh (zU (yz (yu (zF Rf.ok (hr.mono (show 6 <= 7 by decide)) rfl Rf.bound Rf.kp Rf.bd .nil zV (za (pv 8) zb))))
       (zh (zw yT))
       zO)))
     (zh (zw (yO (zF Ei.ok hr rfl Ei.bound Ei.kp Ei.bd .nil zV (za (zX (za (yg wI (pv 7) y7 (yc ze)) zb)) zb)) (yO (zF Ei.ok hr rfl Ei.bound Ei.kp Ei.bd .nil zV (za (xC (qx rfl) rfl tlist PyProof.Rows.boot_list (za (yg wI (pv 7) (yc ze) (yc ze)) zb)) zb)) (xv (zF Ei.ok hr rfl Ei.bound Ei.kp Ei.bd .nil zV (za (zX (za zP zb)) zb)))))))))))))))),?_⟩
   refine ⟨_,rfl,a,ns,2,2,12,rfl,hS,by decide,by decide,by decide,by decide,fun lx xs H2 S2 _ hlx Rx lenx x0 xb => ?_⟩
   refine ⟨_,rfl,a,ns,17,2,12,rfl,S2.seq hS,by decide,by decide,by decide,by decide,fun ly ys H3 S3 _ hly Ry leny y0 yb => ?_⟩
   have S13 := S2.trans S3
   obtain ⟨cells,hcut⟩ := YX ns (some 2) (some 62)
   refine ⟨_,rfl,_,rfl,_,rfl,a,_,rfl,S13.seq hS,fun pc nc => ?_⟩
   rw [hcut]
   refine ⟨pc,cells,12,rfl,SqL.of zd,by decide,fun lb us bs H5 S5 hlb hB Ti hlen => ?_⟩
   have S35:Same H3 H5 := (zf nc).trans S5
   have S15 := S13.trans S35
   have hT5 := S15 _ _ hT
   refine ⟨_,rfl,_,rfl,lb,lx,ly,us,bs,xs,ys,12,rfl,hlb,hB,Ti,by decide,hlen,(S3.trans S35) _ _ hlx,S35 _ _ hly,Rx,Ry,lenx,leny,x0,y0,hT5,fun D vs cs H6 S6 hD hV perm st => ?_⟩
   have hS6:SqL K H6 a (ns.map V.int) := jr S6 ⟨_,hT5⟩ (S15.seq hS)
   have hT6:H6 T2 = some (.tbl #[]) := S6 _ _ hTT (S15 _ _ hT2)
   have hlx6 := qc S6 ⟨_,hT5⟩ ((S3.trans S35) _ _ hlx)
   have hly6 := qc S6 ⟨_,hT5⟩ (S35 _ _ hly)
   have Tc:z0 cs (xs.getD 12 0) (ys.getD 12 0) := wl (jR Ti Rx Ry lenx leny x0 y0) perm
   have hW0:0 < xs.getD 12 0 := by have := Rx 0 12 (by omega) (by omega); omega
   have hG0:0 < ys.getD 12 0 := by have := Ry 0 12 (by omega) (by omega); omega
   obtain ⟨W,hW⟩ := Int.eq_ofNat_of_zero_le (Int.le_of_lt hW0)
   obtain ⟨G,hG⟩ := Int.eq_ofNat_of_zero_le (Int.le_of_lt hG0)
   have lc:cs.length <= 24 := by rw [perm.length_eq,List.length_map]; exact hlen
   refine ⟨_,rfl,_,rfl,_,_,_,_,rfl,rfl,SqL.of hlx6,jD (by omega),_,rfl,_,rfl,_,_,_,_,rfl,rfl,SqL.of hly6,jD (by omega),_,rfl,?_⟩
   rw [lenx,leny,show 12 + 1 - 1 = 12 from rfl,hW,hG]
   rw [hW,hG] at Tc
   have hW1:W <= 24 := by omega
   have hG1:G <= 24 := by omega
   have hW2:1 <= W := by omega
   have hG2:1 <= G := by omega
   clear hW hG xb yb Rx Ry lenx leny x0 y0 perm Ti hlen hlb hB S5 S35 S15 S13 S2 S3 hlx hly hT5 S6 hcut nc hlx6 hly6 hT2 hT hS hW0 hG0
   refine ⟨W,G,D,vs,cs,rfl,hD,hV,lc,Tc,by omega,by omega,fun lr rows H7 S7 _ hlr lrows hrows => ?_⟩
   have hS7 := S7.seq hS6
   have L7:yJ T2 lamQ xK H7 := yJ.fresh (S7 _ _ hT6)
   clear hS6 hT6 hD hV Tc lc st S7
   refine ⟨_,rfl,lr,rows,rfl,hlr,jL (A := letters) (n := W) (fun r hr => ⟨Nat.le_of_eq (hrows r hr).1,(hrows r hr).2⟩) (by omega) (by omega) (by decide),L7,fun H8 B8 L8 => ⟨_,rfl,iteF ?_⟩⟩
   have hS8 := jr B8 (ww L7) hS7
   have hl8 := qc B8 (ww L7) hlr
   clear B8 L7 hS7 hlr
   refine ⟨_,rfl,by decide,by decide,yP (lo := 0) (n := 6) (fun k σ H => ∃ o5:Option V,σ = [some (.ref a),some (.ref lx),some (.ref ly),some (.ref D),some (.ref lr),o5,none,none,none] /\ But T2 H8 H /\ yJ T2 lamQ xK H)
     ⟨none,rfl,(Same.refl _).but T2,L8⟩ ?_ ?_⟩
   · rintro k σ Hk hk ⟨o5,rfl,B,L⟩
     refine xX ?_
     refine ⟨_,rfl,_,rfl,_,rfl,a,ns,_,rfl,jr B (ww L8) hS8,by omega,by omega,fun n => ?_⟩
     refine ⟨lr,rows,n,W,letters,rfl,qc B (ww L8) hl8,by omega,by omega,hW2,by omega,hrows,fun l rs H' S' _ hl' len' of' => ?_⟩
     exact ⟨l,rs,rfl,hl',jL of' (by omega) (by decide) (by decide),L.same S',fun H3 B3 L3 => ⟨_,rfl,iteF ⟨_,rfl,B.trans ((S'.but T2).trans B3),L3⟩⟩⟩
   rintro σ H9 ⟨o5,rfl,B9,L9⟩
   have hS9 := jr B9 (ww L8) hS8
   clear B9 hS8 hl8 L8 hrows lrows
   obtain ⟨ms,hcut⟩ := YX ns (some 2) (some 42)
   refine ⟨_,rfl,_,rfl,_,rfl,a,_,rfl,hS9,fun lc2 nlc2 => ?_⟩
   rw [hcut]
   have Sc := zf (o := .lst (ms.map V.int)) nlc2
   have hlc:(upd H9 lc2 (.lst (ms.map V.int))) lc2 = some (.lst (ms.map V.int)) := zd
   generalize upd H9 lc2 (.lst (ms.map V.int)) = H10 at Sc hlc ⊢
   have L10 := L9.same Sc
   clear Sc hS9 hcut L9
   refine ⟨lc2,rfl,⟨_,SqL.of hlc⟩,?_⟩
   refine wx (K := K) (a := lc2) (xs := ms.map V.int) (fun i σ H => ∃ o6:Option V,σ = [some (.ref a),some (.ref lx),some (.ref ly),some (.ref D),some (.ref lr),o5,o6,none,none] /\ But T2 H10 H /\ yJ T2 lamQ xK H)
     ⟨none,rfl,(Same.refl _).but T2,L10⟩ (fun i σ H _ h9 => by obtain ⟨_,_,B,_⟩ := h9; exact (SqL.of (qc B (ww L10) hlc))) ?_ ?_
   · rintro i x σ H hi ⟨o6,rfl,B,L⟩
     obtain ⟨z,rfl,_⟩ := int_at hi
     refine xX ?_
     refine ⟨_,rfl,z,rfl,fun l rs H' S' _ hl' len' few' => ?_⟩
     exact ⟨l,rs,rfl,hl',jL (A := [97,98,99,100,32]) (n := 4) few' (by omega) (by decide) (by decide),L.same S',fun H3 B3 L3 => ⟨_,rfl,iteF ⟨_,rfl,B.trans ((S'.but T2).trans B3),L3⟩⟩⟩
   rintro σ H11 ⟨o6,rfl,B11,L11⟩
   clear B11 hlc L10 nlc2
   refine yx (v := .str "abcdefghijklmnopqrstuvwxyz") zx ?_
   rw [zab]
   dsimp only
   refine zac (tl := XH) (fun Q => QB) fun lt ts H12 S12 hlt hno => ?_
   have L12 := L11.same S12
   clear L11 S12
   refine ⟨fun i σ H => ∃ o8:Option V,σ = [some (.ref a),some (.ref lx),some (.ref ly),some (.ref D),some (.ref lr),o5,o6,some (.str (txt (abc 26))),o8] /\ Same H12 H,
     ⟨none,rfl,Same.refl _⟩,(fun i σ H _ h9 => by obtain ⟨_,_,S⟩ := h9; exact (SqL.of (S _ _ hlt))),?_,?_⟩
   · rintro i x σ H hi ⟨o8,rfl,S⟩
     obtain ⟨l,rs,rfl,hl,sm,np⟩ := hno x (List.mem_of_getElem? hi)
     refine xX ?_
     exact ⟨_,rfl,l,rs,rfl,S _ _ hl,sm.n,sm.w,sm.s,np,fun H' S' => ⟨_,rfl,iteF ⟨_,rfl,S.trans S'⟩⟩⟩
   rintro σ H13 ⟨o8,rfl,S13⟩
   have L13 := L12.same S13
   clear S13 hno hlt L12
   refine ⟨_,rfl,_,rfl,_,rfl,by decide,by show 1 <= sizeLine; decide,fun l1 n1 => ?_⟩
   have hl1:(upd H13 l1 (.lst [.str (txt (cutN (abc 26) none (some 24)))])) l1 = some (.lst (txs [cutN (abc 26) none (some 24)])) := zd
   have L14 := L13.same (zf (o := .lst [.str (txt (cutN (abc 26) none (some 24)))]) n1)
   generalize upd H13 l1 (.lst [.str (txt (cutN (abc 26) none (some 24)))]) = H14 at hl1 L14 ⊢
   refine ⟨l1,_,rfl,hl1,yN (by decide +kernel),L14,fun H15 _ L15 => ⟨true,rfl,?_⟩⟩
   rw [if_pos rfl]
   clear hl1 L14 L13
   refine ⟨_,rfl,_,rfl,_,rfl,_,rfl,by decide,_,rfl,by decide +kernel,fun l2 n2 => ?_⟩
   have hl2:(upd H15 l2 (.lst ((cutN (abc 26) (some 1) (some 25)).map fun c => V.str (txt [c])))) l2 = some (.lst (txs ((cutN (abc 26) (some 1) (some 25)).map fun c => [c]))) := by
     rw [YY]
     exact zd
   have L16 := L15.same (zf (o := .lst ((cutN (abc 26) (some 1) (some 25)).map fun c => V.str (txt [c]))) n2)
   generalize upd H15 l2 (.lst ((cutN (abc 26) (some 1) (some 25)).map fun c => V.str (txt [c]))) = H16 at hl2 L16 ⊢
   refine ⟨l2,_,rfl,hl2,yN (by decide +kernel),L16,fun H17 _ L17 => ⟨true,rfl,?_⟩⟩
   rw [if_pos rfl]
   refine ⟨by show 1 <= sizeLine; decide,fun l3 n3 => ?_⟩
   exact ⟨l3,[[97]],rfl,zd,yN rfl,L17.same (zf n3),fun H18 _ _ => q _⟩
end
end _K4
namespace _K4
open PySem _L2 _Til
theorem bl1 {α:Type} {p:List α -> Prop} {us:List α} (hl:us.length = 1) (q:∀ a0,p [a0]):p us := match us,hl with
 | [a0],_ => q a0
theorem bl2 {α:Type} {p:List α -> Prop} {us:List α} (hl:us.length = 2) (q:∀ a0 a1,p [a0,a1]):p us := match us,hl with
 | [a0,a1],_ => q a0 a1
theorem bl3 {α:Type} {p:List α -> Prop} {us:List α} (hl:us.length = 3) (q:∀ a0 a1 a2,p [a0,a1,a2]):p us := match us,hl with
 | [a0,a1,a2],_ => q a0 a1 a2
theorem bl4 {α:Type} {p:List α -> Prop} {us:List α} (hl:us.length = 4) (q:∀ a0 a1 a2 a3,p [a0,a1,a2,a3]):p us := match us,hl with
 | [a0,a1,a2,a3],_ => q a0 a1 a2 a3
theorem all_mk {l:PySem.W.OpenLaw} {w:World} {K:PySem.W.Frag} {h:Heap} {mg:Str -> Option Value} {fa cc0 T0 cc1 T1 f0 f1 f2 f3 f4 f5 f6 f7 f8 f9 f10 f11 f12 f13 f14 f15 f16 f17 f18 f19 f20 f21 f22 f23 f24 f25 f26 f27 C0 C1 C2 C3 C4 C5 C6 C7 C8 C9:Addr} (X:K.In h) (G:h.Ns mainGlobals mg) (hfa:mg "law" = some (.ref fa)) (Cd0:PySem.W.CodeHd h cc0 T0) (Cd1:PySem.W.CodeHd h cc1 T1) (hTT:T1 ≠ T0)
   {od0 od1 od2 od3 od4 od5 od6 od7 od8 od9 od10 od11 od12 od13 od14 od15 od16 od17 od18 od19 od20 od21 od22 od23 od24 od25 od26 od27 an0 an1 an2 an3 an4 an5 an6 an7 an8 an9 an10 an11 an12 an13 an14 an15 an16 an17 an18 an19 an20 an21 an22 an23 an24 an25 an26 an27:Option Addr} {sl0 sl1 sl2 sl3 sl4 sl5 sl6 sl7 sl8 sl9 sl10 sl11 sl12 sl13 sl14 sl15 sl16 sl17 sl18 sl19 sl20 sl21 sl22 sl23 sl24 sl25 sl26 sl27:Array (Option Value)} {oc0 kV0 dc0 pm0 cd0 ct0 oc1 kV1 dc1 pm1 cd1 ct1 oc2 kV2 dc2 pm2 cd2 ct2 oc3 kV3 dc3 pm3 cd3 ct3 oc4 kV4 dc4 pm4 cd4 ct4 oc5 kV5 dc5 pm5 cd5 ct5 oc6 kV6 dc6 pm6 cd6 ct6 oc7 kV7 dc7 pm7 cd7 ct7 oc8 kV8 dc8 pm8 cd8 ct8 oc9 kV9 dc9 pm9 cd9 ct9 oc10 kV10 dc10 pm10 cd10 ct10 oc11 kV11 dc11 pm11 cd11 ct11 oc12 kV12 dc12 pm12 cd12 ct12 oc13 kV13 dc13 pm13 cd13 ct13 oc14 kV14 dc14 pm14 cd14 ct14 oc15 kV15 dc15 pm15 cd15 ct15 oc16 kV16 dc16 pm16 cd16 ct16 oc17 kV17 dc17 pm17 cd17 ct17 oc18 kV18 dc18 pm18 cd18 ct18 oc19 kV19 dc19 pm19 cd19 ct19 oc20 kV20 dc20 pm20 ct20 oc21 kV21 dc21 pm21 cd21 ct21 oc22 kV22 dc22 pm22 ct22 oc23 kV23 dc23 pm23 cd23 ct23 oc24 kV24 dc24 pm24 cd24 ct24 oc25 kV25 dc25 pm25 cd25 ct25 oc26 kV26 dc26 pm26 cd26 ct26 oc27 kV27 dc27 pm27 cd27 ct27:Value} {oC0 oC1:Obj}  {t_LEFT t_TOP t_RIGHT t_BELOW t_MOST_BOXES:Tok}
   (a0:PySem.W.nsIn K mainGlobals "is_whole" = some (some (.ref f0)))
   (l0:K.lookup f0 = some ⟨oc0,od0,.func (PySem.W.fnOf "is_whole" "is_whole" (zJ wY) (zD wY) (zl wY) .none kV0 dc0 pm0 an0 cd0 ct0),sl0⟩)
   (c0:PySem.W.codeIn K cd0 "is_whole" = true)
   (k0:PySem.W.keepIn K (.ref f0) = true)
   (a1:PySem.W.nsIn K mainGlobals "is_length" = some (some (.ref f1)))
   (l1:K.lookup f1 = some ⟨oc1,od1,.func (PySem.W.fnOf "is_length" "is_length" (zJ wq) (zD wq) (zl wq) .none kV1 dc1 pm1 an1 cd1 ct1),sl1⟩)
   (c1:PySem.W.codeIn K cd1 "is_length" = true)
   (k1:PySem.W.keepIn K (.ref f1) = true)
   (a2:PySem.W.nsIn K mainGlobals "is_box" = some (some (.ref f2)))
   (l2:K.lookup f2 = some ⟨oc2,od2,.func (PySem.W.fnOf "is_box" "is_box" (zJ sBox) (zD sBox) (zl sBox) .none kV2 dc2 pm2 an2 cd2 ct2),sl2⟩)
   (c2:PySem.W.codeIn K cd2 "is_box" = true)
   (k2:PySem.W.keepIn K (.ref f2) = true)
   (a3:PySem.W.nsIn K mainGlobals "are_boxes" = some (some (.ref f3)))
   (l3:K.lookup f3 = some ⟨oc3,od3,.func (PySem.W.fnOf "are_boxes" "are_boxes" (zJ sAre) (zD sAre) (zl sAre) .none kV3 dc3 pm3 an3 cd3 ct3),sl3⟩)
   (c3:PySem.W.codeIn K cd3 "are_boxes" = true)
   (k3:PySem.W.keepIn K (.ref f3) = true)
   (a4:PySem.W.nsIn K mainGlobals "is_within" = some (some (.ref f4)))
   (l4:K.lookup f4 = some ⟨oc4,od4,.func (PySem.W.fnOf "is_within" "is_within" (zJ wt) (zD wt) (zl wt) .none kV4 dc4 pm4 an4 cd4 ct4),sl4⟩)
   (c4:PySem.W.codeIn K cd4 "is_within" = true)
   (k4:PySem.W.keepIn K (.ref f4) = true)
   (a5:PySem.W.nsIn K mainGlobals "overlap" = some (some (.ref f5)))
   (l5:K.lookup f5 = some ⟨oc5,od5,.func (PySem.W.fnOf "overlap" "overlap" (zJ xO) (zD xO) (zl xO) .none kV5 dc5 pm5 an5 cd5 ct5),sl5⟩)
   (c5:PySem.W.codeIn K cd5 "overlap" = true)
   (k5:PySem.W.keepIn K (.ref f5) = true)
   (a6:PySem.W.nsIn K mainGlobals "any_overlap" = some (some (.ref f6)))
   (l6:K.lookup f6 = some ⟨oc6,od6,.func (PySem.W.fnOf "any_overlap" "any_overlap" (zJ sAny) (zD sAny) (zl sAny) .none kV6 dc6 pm6 an6 cd6 ct6),sl6⟩)
   (c6:PySem.W.codeIn K cd6 "any_overlap" = true)
   (k6:PySem.W.keepIn K (.ref f6) = true)
   (a7:PySem.W.nsIn K mainGlobals "area" = some (some (.ref f7)))
   (l7:K.lookup f7 = some ⟨oc7,od7,.func (PySem.W.fnOf "area" "area" (zJ jc) (zD jc) (zl jc) .none kV7 dc7 pm7 an7 cd7 ct7),sl7⟩)
   (c7:PySem.W.codeIn K cd7 "area" = true)
   (k7:PySem.W.keepIn K (.ref f7) = true)
   (a8:PySem.W.nsIn K mainGlobals "fill" = some (some (.ref f8)))
   (l8:K.lookup f8 = some ⟨oc8,od8,.func (PySem.W.fnOf "fill" "fill" (zJ jd) (zD jd) (zl jd) .none kV8 dc8 pm8 an8 cd8 ct8),sl8⟩)
   (c8:PySem.W.codeIn K cd8 "fill" = true)
   (k8:PySem.W.keepIn K (.ref f8) = true)
   (a9:PySem.W.nsIn K mainGlobals "top_then_left" = some (some (.ref f9)))
   (l9:K.lookup f9 = some ⟨oc9,od9,.func (PySem.W.fnOf "top_then_left" "top_then_left" (zJ sTtl) (zD sTtl) (zl sTtl) .none kV9 dc9 pm9 an9 cd9 ct9),sl9⟩)
   (c9:PySem.W.codeIn K cd9 "top_then_left" = true)
   (k9:PySem.W.keepIn K (.ref f9) = true)
   (a10:PySem.W.nsIn K mainGlobals "make_page" = some (some (.ref f10)))
   (l10:K.lookup f10 = some ⟨oc10,od10,.func (PySem.W.fnOf "make_page" "make_page" (zJ je) (zD je) (zl je) .none kV10 dc10 pm10 an10 cd10 ct10),sl10⟩)
   (c10:PySem.W.codeIn K cd10 "make_page" = true)
   (k10:PySem.W.keepIn K (.ref f10) = true)
   (a11:PySem.W.nsIn K mainGlobals "are_even_texts" = some (some (.ref f11)))
   (l11:K.lookup f11 = some ⟨oc11,od11,.func (PySem.W.fnOf "are_even_texts" "are_even_texts" (zJ jf) (zD jf) (zl jf) .none kV11 dc11 pm11 an11 cd11 ct11),sl11⟩)
   (c11:PySem.W.codeIn K cd11 "are_even_texts" = true)
   (k11:PySem.W.keepIn K (.ref f11) = true)
   (a12:PySem.W.nsIn K mainGlobals "box_round" = some (some (.ref f12)))
   (l12:K.lookup f12 = some ⟨oc12,od12,.func (PySem.W.fnOf "box_round" "box_round" (zJ wZ) (zD wZ) (zl wZ) .none kV12 dc12 pm12 an12 cd12 ct12),sl12⟩)
   (c12:PySem.W.codeIn K cd12 "box_round" = true)
   (k12:PySem.W.keepIn K (.ref f12) = true)
   (a13:PySem.W.nsIn K mainGlobals "read_picture" = some (some (.ref f13)))
   (l13:K.lookup f13 = some ⟨oc13,od13,.func (PySem.W.fnOf "read_picture" "read_picture" (zJ jg) (zD jg) (zl jg) .none kV13 dc13 pm13 an13 cd13 ct13),sl13⟩)
   (c13:PySem.W.codeIn K cd13 "read_picture" = true)
   (k13:PySem.W.keepIn K (.ref f13) = true)
   (a14:PySem.W.nsIn K mainGlobals "_law_stir" = some (some (.ref f14)))
   (l14:K.lookup f14 = some ⟨oc14,od14,.func (PySem.W.fnOf "_law_stir" "_law_stir" (zJ q0) (zD q0) (zl q0) .none kV14 dc14 pm14 an14 cd14 ct14),sl14⟩)
   (c14:PySem.W.codeIn K cd14 "_law_stir" = true)
   (k14:PySem.W.keepIn K (.ref f14) = true)
   (a15:PySem.W.nsIn K mainGlobals "_law_cell" = some (some (.ref f15)))
   (l15:K.lookup f15 = some ⟨oc15,od15,.func (PySem.W.fnOf "_law_cell" "_law_cell" (zJ q8) (zD q8) (zl q8) .none kV15 dc15 pm15 an15 cd15 ct15),sl15⟩)
   (c15:PySem.W.codeIn K cd15 "_law_cell" = true)
   (k15:PySem.W.keepIn K (.ref f15) = true)
   (a16:PySem.W.nsIn K mainGlobals "_law_grown" = some (some (.ref f16)))
   (l16:K.lookup f16 = some ⟨oc16,od16,.func (PySem.W.fnOf "_law_grown" "_law_grown" (zJ wV) (zD wV) (zl wV) .none kV16 dc16 pm16 an16 cd16 ct16),sl16⟩)
   (c16:PySem.W.codeIn K cd16 "_law_grown" = true)
   (k16:PySem.W.keepIn K (.ref f16) = true)
   (a17:PySem.W.nsIn K mainGlobals "_law_wheel" = some (some (.ref f17)))
   (l17:K.lookup f17 = some ⟨oc17,od17,.func (PySem.W.fnOf "_law_wheel" "_law_wheel" (zJ wW) (zD wW) (zl wW) .none kV17 dc17 pm17 an17 cd17 ct17),sl17⟩)
   (c17:PySem.W.codeIn K cd17 "_law_wheel" = true)
   (k17:PySem.W.keepIn K (.ref f17) = true)
   (a18:PySem.W.nsIn K mainGlobals "_law_grid" = some (some (.ref f18)))
   (l18:K.lookup f18 = some ⟨oc18,od18,.func (PySem.W.fnOf "_law_grid" "_law_grid" (zJ ja) (zD ja) (zl ja) .none kV18 dc18 pm18 an18 cd18 ct18),sl18⟩)
   (c18:PySem.W.codeIn K cd18 "_law_grid" = true)
   (k18:PySem.W.keepIn K (.ref f18) = true)
   (a19:PySem.W.nsIn K mainGlobals "_law_lines" = some (some (.ref f19)))
   (l19:K.lookup f19 = some ⟨oc19,od19,.func (PySem.W.fnOf "_law_lines" "_law_lines" (zJ wX) (zD wX) (zl wX) .none kV19 dc19 pm19 an19 cd19 ct19),sl19⟩)
   (c19:PySem.W.codeIn K cd19 "_law_lines" = true)
   (k19:PySem.W.keepIn K (.ref f19) = true)
   (a20:PySem.W.nsIn K mainGlobals "_law_laid" = some (some (.ref f20)))
   (l20:K.lookup f20 = some ⟨oc20,od20,.func (PySem.W.fnOf "_law_laid" "_law_laid" (zJ jb) (zD jb) (zl jb) .none kV20 dc20 pm20 an20 (.ref cc0) ct20),sl20⟩)
   (c20:PySem.W.codeIn K (.ref cc0) "_law_laid" = true)
   (k20:PySem.W.keepIn K (.ref f20) = true)
   (a21:PySem.W.nsIn K mainGlobals "_law_refused" = some (some (.ref f21)))
   (l21:K.lookup f21 = some ⟨oc21,od21,.func (PySem.W.fnOf "_law_refused" "_law_refused" (zJ sRef) (zD sRef) (zl sRef) .none kV21 dc21 pm21 an21 cd21 ct21),sl21⟩)
   (c21:PySem.W.codeIn K cd21 "_law_refused" = true)
   (k21:PySem.W.keepIn K (.ref f21) = true)
   (a22:PySem.W.nsIn K mainGlobals "_law_due" = some (some (.ref f22)))
   (l22:K.lookup f22 = some ⟨oc22,od22,.func (PySem.W.fnOf "_law_due" "_law_due" (zJ sDue) (zD sDue) (zl sDue) .none kV22 dc22 pm22 an22 (.ref cc1) ct22),sl22⟩)
   (c22:PySem.W.codeIn K (.ref cc1) "_law_due" = true)
   (k22:PySem.W.keepIn K (.ref f22) = true)
   (a23:PySem.W.nsIn K mainGlobals "_law_either" = some (some (.ref f23)))
   (l23:K.lookup f23 = some ⟨oc23,od23,.func (PySem.W.fnOf "_law_either" "_law_either" (zJ jh) (zD jh) (zl jh) .none kV23 dc23 pm23 an23 cd23 ct23),sl23⟩)
   (c23:PySem.W.codeIn K cd23 "_law_either" = true)
   (k23:PySem.W.keepIn K (.ref f23) = true)
   (a24:PySem.W.nsIn K mainGlobals "_law_small" = some (some (.ref f24)))
   (l24:K.lookup f24 = some ⟨oc24,od24,.func (PySem.W.fnOf "_law_small" "_law_small" (zJ w4) (zD w4) (zl w4) .none kV24 dc24 pm24 an24 cd24 ct24),sl24⟩)
   (c24:PySem.W.codeIn K cd24 "_law_small" = true)
   (k24:PySem.W.keepIn K (.ref f24) = true)
   (a25:PySem.W.nsIn K mainGlobals "_law_spoilt" = some (some (.ref f25)))
   (l25:K.lookup f25 = some ⟨oc25,od25,.func (PySem.W.fnOf "_law_spoilt" "_law_spoilt" (zJ w5) (zD w5) (zl w5) .none kV25 dc25 pm25 an25 cd25 ct25),sl25⟩)
   (c25:PySem.W.codeIn K cd25 "_law_spoilt" = true)
   (k25:PySem.W.keepIn K (.ref f25) = true)
   (a26:PySem.W.nsIn K mainGlobals "_law_rows" = some (some (.ref f26)))
   (l26:K.lookup f26 = some ⟨oc26,od26,.func (PySem.W.fnOf "_law_rows" "_law_rows" (zJ ji) (zD ji) (zl ji) .none kV26 dc26 pm26 an26 cd26 ct26),sl26⟩)
   (c26:PySem.W.codeIn K cd26 "_law_rows" = true)
   (k26:PySem.W.keepIn K (.ref f26) = true)
   (a27:PySem.W.nsIn K mainGlobals "law" = some (some (.ref f27)))
   (l27:K.lookup f27 = some ⟨oc27,od27,.func (PySem.W.fnOf "law" "law" (zJ sLaw) (zD sLaw) (zl sLaw) .none kV27 dc27 pm27 an27 cd27 ct27),sl27⟩)
   (c27:PySem.W.codeIn K cd27 "law" = true)
   (k27:PySem.W.keepIn K (.ref f27) = true)
   (lc0:K.lookup cc0 = some oC0)
   (lc1:K.lookup cc1 = some oC1)
   (C0m:PySem.W.nsIn K mainGlobals "PartError" = some (some (.ref C0)))
   (C1m:PySem.W.nsIn K mainGlobals "NoPicture" = some (some (.ref C1)))
   (C2m:PySem.W.nsIn K mainGlobals "NoPlace" = some (some (.ref C2)))
   (C3m:PySem.W.nsIn K mainGlobals "NoPage" = some (some (.ref C3)))
   (C4m:PySem.W.nsIn K mainGlobals "NoTree" = some (some (.ref C4)))
   (C5m:PySem.W.nsIn K mainGlobals "NoNeeds" = some (some (.ref C5)))
   (C6m:PySem.W.nsIn K mainGlobals "NoTexts" = some (some (.ref C6)))
   (C7m:PySem.W.nsIn K mainGlobals "NoRoom" = some (some (.ref C7)))
   (C8m:PySem.W.nsIn K mainGlobals "NoRow" = some (some (.ref C8)))
   (C9m:PySem.W.nsIn K mainGlobals "NoNumber" = some (some (.ref C9)))
   (z_len:PySem.W.nsIn K mainGlobals "len" = some none)
   (z_range:PySem.W.nsIn K mainGlobals "range" = some none)
   (z_min:PySem.W.nsIn K mainGlobals "min" = some none)
   (z_max:PySem.W.nsIn K mainGlobals "max" = some none)
   (z_sorted:PySem.W.nsIn K mainGlobals "sorted" = some none)
   (z_enumerate:PySem.W.nsIn K mainGlobals "enumerate" = some none)
   (z_isinstance:PySem.W.nsIn K mainGlobals "isinstance" = some none)
   (z_int:PySem.W.nsIn K mainGlobals "int" = some none)
   (z_bool:PySem.W.nsIn K mainGlobals "bool" = some none)
   (z_tuple:PySem.W.nsIn K mainGlobals "tuple" = some none)
   (z_list:PySem.W.nsIn K mainGlobals "list" = some none)
   (z_all:PySem.W.nsIn K mainGlobals "all" = some none)
   (z_any:PySem.W.nsIn K mainGlobals "any" = some none)
   (z_sum:PySem.W.nsIn K mainGlobals "sum" = some none)
   (z_ValueError:PySem.W.nsIn K mainGlobals "ValueError" = some none)
   (z_set:PySem.W.nsIn K mainGlobals "set" = some none)
   (z_str:PySem.W.nsIn K mainGlobals "str" = some none)
   (g_LEFT:PySem.W.nsIn K mainGlobals "LEFT" = some (some (.int 0 t_LEFT)))
   (g_TOP:PySem.W.nsIn K mainGlobals "TOP" = some (some (.int 1 t_TOP)))
   (g_RIGHT:PySem.W.nsIn K mainGlobals "RIGHT" = some (some (.int 2 t_RIGHT)))
   (g_BELOW:PySem.W.nsIn K mainGlobals "BELOW" = some (some (.int 3 t_BELOW)))
   (g_MOST_BOXES:PySem.W.nsIn K mainGlobals "MOST_BOXES" = some (some (.int 24 t_MOST_BOXES)))
   (ex1:PySem.W.excIn K C1 [.type "ValueError",.type "Exception",.type "BaseException",.type "object"] "ValueError.__new__" = true)
   (ex3:PySem.W.excIn K C3 [.type "ValueError",.type "Exception",.type "BaseException",.type "object"] "ValueError.__new__" = true)
   (e0a:PySem.W.findIn K (.ref C0) "__getattribute__" = some (some (.builtin "BaseException.__getattribute__")))
   (e0b:PySem.W.findIn K (.ref C0) "__getattr__" = some none)
   (e0c:PySem.W.findIn K (.ref C0) "__class__" = some (some (.builtin "object.__class__")))
   (e0f:PySem.W.mroIn K C0 (.type "object") = some true)
   (e0g:PySem.W.mroIn K C0 (.type "BaseException") = some true)
   (e0h:PySem.W.typeIn K (.ref C0) = some (.type "type"))
   (e0i:(PySem.W.clsIn K C0).isSome = true)
   (e1a:PySem.W.findIn K (.ref C1) "__getattribute__" = some (some (.builtin "BaseException.__getattribute__")))
   (e1b:PySem.W.findIn K (.ref C1) "__getattr__" = some none)
   (e1c:PySem.W.findIn K (.ref C1) "__class__" = some (some (.builtin "object.__class__")))
   (e1f:PySem.W.mroIn K C1 (.type "object") = some true)
   (e1g:PySem.W.mroIn K C1 (.type "BaseException") = some true)
   (e1h:PySem.W.typeIn K (.ref C1) = some (.type "type"))
   (e1i:(PySem.W.clsIn K C1).isSome = true)
   (e3a:PySem.W.findIn K (.ref C3) "__getattribute__" = some (some (.builtin "BaseException.__getattribute__")))
   (e3b:PySem.W.findIn K (.ref C3) "__getattr__" = some none)
   (e3c:PySem.W.findIn K (.ref C3) "__class__" = some (some (.builtin "object.__class__")))
   (e3f:PySem.W.mroIn K C3 (.type "object") = some true)
   (e3g:PySem.W.mroIn K C3 (.type "BaseException") = some true)
   (e3h:PySem.W.typeIn K (.ref C3) = some (.type "type"))
   (e3i:(PySem.W.clsIn K C3).isSome = true)
   (ed:PySem.W.specialIn K (.builtin "object.__class__") "__get__" = some (some (.builtin "getset_descriptor.__get__")))
   (ee:PySem.W.takesIn K (.builtin "object.__class__") = some true)
   (up:PySem.W.mroIn K C1 (.ref C0) = some true)
   (mN:PySem.W.mroIn K C3 (.ref C3) = some true)
   (q1:PySem.W.kitOne K (.ref C1) (.ref C1) = some true)
   (qv:PySem.W.kitOne K (.ref C1) (.type "ValueError") = some true)
   (qA:PySem.W.kitAny K (.ref C1) [.ref C2,.ref C3,.ref C4,.ref C5] = some false)
   (qB:PySem.W.kitAny K (.ref C1) [.ref C6,.ref C7,.ref C8,.ref C9] = some false)
   (ib:PySem.W.kitOne K (.type "int") (.type "bool") = some false)
   (tt:PySem.W.kitOne K (.type "int") (.type "tuple") = some false)
   (kb:PySem.W.kitOne K (.type "bool") (.type "int") = some true)
   (ki_NoneType:PySem.W.kitOne K (.type "NoneType") (.type "int") = some false)
   (ki_str:PySem.W.kitOne K (.type "str") (.type "int") = some false)
   (ki_list:PySem.W.kitOne K (.type "list") (.type "int") = some false)
   (ki_tuple:PySem.W.kitOne K (.type "tuple") (.type "int") = some false)
   (ki_dict:PySem.W.kitOne K (.type "dict") (.type "int") = some false)
   (kt_NoneType:PySem.W.kitOne K (.type "NoneType") (.type "tuple") = some false)
   (kt_bool:PySem.W.kitOne K (.type "bool") (.type "tuple") = some false)
   (kt_str:PySem.W.kitOne K (.type "str") (.type "tuple") = some false)
   (kt_list:PySem.W.kitOne K (.type "list") (.type "tuple") = some false)
   (kt_dict:PySem.W.kitOne K (.type "dict") (.type "tuple") = some false) :
   ∃ fd:FuncData,(∀ (s:Shared) (v:Value),BindsTo s fd ⟨[v],[]⟩ [("script",v)]) /\ ∀ base:Heap,K.In base -> base.Ns mainGlobals mg -> BMain mg base -> FnOk l.prog w K mg base CX0 8 fa fd ["script"] (Wn K T0 T1) := by
 have e := hfa.symm.trans (PySem.W.mg_of X G a27)
 cases e
 have F0 := zW (st := wY) l0 c0 k0
 have F1 := zW (st := wq) l1 c1 k1
 have F2 := zW (st := sBox) l2 c2 k2
 have F3 := zW (st := sAre) l3 c3 k3
 have F4 := zW (st := wt) l4 c4 k4
 have F5 := zW (st := xO) l5 c5 k5
 have F6 := zW (st := sAny) l6 c6 k6
 have F7 := zW (st := jc) l7 c7 k7
 have F8 := zW (st := jd) l8 c8 k8
 have F9 := zW (st := sTtl) l9 c9 k9
 have F10 := zW (st := je) l10 c10 k10
 have F11 := zW (st := jf) l11 c11 k11
 have F12 := zW (st := wZ) l12 c12 k12
 have F13 := zW (st := jg) l13 c13 k13
 have F14 := zW (st := q0) l14 c14 k14
 have F15 := zW (st := q8) l15 c15 k15
 have F16 := zW (st := wV) l16 c16 k16
 have F17 := zW (st := wW) l17 c17 k17
 have F18 := zW (st := ja) l18 c18 k18
 have F19 := zW (st := wX) l19 c19 k19
 have F20 := zW (st := jb) l20 c20 k20
 have F21 := zW (st := sRef) l21 c21 k21
 have F22 := zW (st := sDue) l22 c22 k22
 have F23 := zW (st := jh) l23 c23 k23
 have F24 := zW (st := w4) l24 c24 k24
 have F25 := zW (st := w5) l25 c25 k25
 have F26 := zW (st := ji) l26 c26 k26
 have F27 := zW (st := sLaw) l27 c27 k27
 have xc0:yQ K C0 := ⟨e0a,e0b,e0c,ed,ee,e0f,e0g,e0h,e0i⟩
 have xc1:yQ K C1 := ⟨e1a,e1b,e1c,ed,ee,e1f,e1g,e1h,e1i⟩
 have xc3:yQ K C3 := ⟨e3a,e3b,e3c,ed,ee,e3f,e3g,e3h,e3i⟩
 have Z:Nm K mg := ⟨⟨_,PySem.W.mg_of X G g_LEFT⟩,⟨_,PySem.W.mg_of X G g_TOP⟩,⟨_,PySem.W.mg_of X G g_RIGHT⟩,⟨_,PySem.W.mg_of X G g_BELOW⟩,⟨_,PySem.W.mg_of X G g_MOST_BOXES⟩,(PySem.W.mg_none_of X G z_isinstance),(PySem.W.mg_none_of X G z_int),(PySem.W.mg_none_of X G z_bool),(PySem.W.mg_none_of X G z_tuple),(PySem.W.mg_none_of X G z_list),(PySem.W.mg_none_of X G z_len),(PySem.W.mg_none_of X G z_all),(PySem.W.mg_none_of X G z_any),(PySem.W.mg_none_of X G z_sum),(PySem.W.mg_none_of X G z_sorted),(PySem.W.mg_none_of X G z_enumerate),ib,tt,(fun T hT => by simp only [List.mem_cons,List.not_mem_nil,or_false] at hT; rcases hT with rfl | rfl | rfl | rfl | rfl <;> assumption),kb,(fun T hT => by simp only [List.mem_cons,List.not_mem_nil,or_false] at hT; rcases hT with rfl | rfl | rfl | rfl | rfl <;> assumption)⟩
 have ZK:Kinds K mg C0 C1 C2 C3 C4 C5 C6 C7 C8 C9 := ⟨PySem.W.mg_of X G C0m,PySem.W.mg_of X G C1m,PySem.W.mg_of X G C2m,PySem.W.mg_of X G C3m,PySem.W.mg_of X G C4m,PySem.W.mg_of X G C5m,PySem.W.mg_of X G C6m,PySem.W.mg_of X G C7m,PySem.W.mg_of X G C8m,PySem.W.mg_of X G C9m,(PySem.W.mg_none_of X G z_ValueError),xc0,xc1,up,q1,qv,qA,qB⟩
 refine ⟨PySem.W.fnOf "law" "law" (zJ sLaw) (zD sLaw) (zl sLaw) .none kV27 dc27 pm27 an27 cd27 ct27,fun s v => .of_eq rfl,fun base B _ M => ?_⟩
 have Y0:Callee l.prog w K mg base CX0 1 "is_whole" f0 _ ["thing"] jm := ⟨QV F0 Z,PySem.W.mg_of X G a0,k0,F0.binds fun _ _ _ _ _ _ us hl => bl1 (p := fun us => bindArgs _ ⟨us,[]⟩ = pure (List.zip _ us)) hl fun _ => rfl⟩
 have Y1:Callee l.prog w K mg base CX0 2 "is_length" f1 _ ["thing"] jG := ⟨WY F1 Y0,PySem.W.mg_of X G a1,k1,F1.binds fun _ _ _ _ _ _ us hl => bl1 (p := fun us => bindArgs _ ⟨us,[]⟩ = pure (List.zip _ us)) hl fun _ => rfl⟩
 have Y2:Callee l.prog w K mg base CX0 2 "is_box" f2 _ ["thing"] XW := ⟨zaE F2 Z Y0,PySem.W.mg_of X G a2,k2,F2.binds fun _ _ _ _ _ _ us hl => bl1 (p := fun us => bindArgs _ ⟨us,[]⟩ = pure (List.zip _ us)) hl fun _ => rfl⟩
 have Y3:Callee l.prog w K mg base CX0 3 "are_boxes" f3 _ ["things"] XX := ⟨zaF F3 Z Y2,PySem.W.mg_of X G a3,k3,F3.binds fun _ _ _ _ _ _ us hl => bl1 (p := fun us => bindArgs _ ⟨us,[]⟩ = pure (List.zip _ us)) hl fun _ => rfl⟩
 have Y4:Callee l.prog w K mg base CX0 1 "is_within" f4 _ ["box","wide","high"] jH := ⟨WZ F4 Z,PySem.W.mg_of X G a4,k4,F4.binds fun _ _ _ _ _ _ us hl => bl3 (p := fun us => bindArgs _ ⟨us,[]⟩ = pure (List.zip _ us)) hl fun _ _ _ => rfl⟩
 have Y5:Callee l.prog w K mg base CX0 1 "overlap" f5 _ ["one","other"] qL := ⟨X0 F5 Z,PySem.W.mg_of X G a5,k5,F5.binds fun _ _ _ _ _ _ us hl => bl2 (p := fun us => bindArgs _ ⟨us,[]⟩ = pure (List.zip _ us)) hl fun _ _ => rfl⟩
 have Y6:Callee l.prog w K mg base CX0 2 "any_overlap" f6 _ ["boxes"] XY := ⟨zaI F6 Z Y5,PySem.W.mg_of X G a6,k6,F6.binds fun _ _ _ _ _ _ us hl => bl1 (p := fun us => bindArgs _ ⟨us,[]⟩ = pure (List.zip _ us)) hl fun _ => rfl⟩
 have Y7:Callee l.prog w K mg base CX0 1 "area" f7 _ ["box"] YB := ⟨JF F7 Z,PySem.W.mg_of X G a7,k7,F7.binds fun _ _ _ _ _ _ us hl => bl1 (p := fun us => bindArgs _ ⟨us,[]⟩ = pure (List.zip _ us)) hl fun _ => rfl⟩
 have Y8:Callee l.prog w K mg base CX0 3 "fill" f8 _ ["boxes","wide","high"] YC := ⟨JI F8 Z Y4 Y6 Y7,PySem.W.mg_of X G a8,k8,F8.binds fun _ _ _ _ _ _ us hl => bl3 (p := fun us => bindArgs _ ⟨us,[]⟩ = pure (List.zip _ us)) hl fun _ _ _ => rfl⟩
 have Y9:Callee l.prog w K mg base CX0 1 "top_then_left" f9 _ ["box"] XZ := ⟨zaH F9 Z,PySem.W.mg_of X G a9,k9,F9.binds fun _ _ _ _ _ _ us hl => bl1 (p := fun us => bindArgs _ ⟨us,[]⟩ = pure (List.zip _ us)) hl fun _ => rfl⟩
 have Y10:Callee l.prog w K mg base (CXS l.prog w) 4 "make_page" f10 _ ["wide","high","boxes"] (YD C3) := ⟨JJ F10 Z ⟨PySem.W.mg_of X G C3m,ex3⟩ Y1 Y3 Y8 Y9,PySem.W.mg_of X G a10,k10,F10.binds fun _ _ _ _ _ _ us hl => bl3 (p := fun us => bindArgs _ ⟨us,[]⟩ = pure (List.zip _ us)) hl fun _ _ _ => rfl⟩
 have Y11:Callee l.prog w K mg base CX0 1 "are_even_texts" f11 _ ["rows"] YN := ⟨JN F11 (PySem.W.mg_none_of X G z_isinstance) (PySem.W.mg_none_of X G z_list) (PySem.W.mg_none_of X G z_str) (PySem.W.mg_none_of X G z_len) (PySem.W.mg_none_of X G z_all),PySem.W.mg_of X G a11,k11,F11.binds fun _ _ _ _ _ _ us hl => bl1 (p := fun us => bindArgs _ ⟨us,[]⟩ = pure (List.zip _ us)) hl fun _ => rfl⟩
 have Y12:Callee l.prog w K mg base CX0 1 "box_round" f12 _ ["rows","sign"] Zs := ⟨Q0 F12 (PySem.W.mg_none_of X G z_enumerate) (PySem.W.mg_none_of X G z_min) (PySem.W.mg_none_of X G z_max),PySem.W.mg_of X G a12,k12,F12.binds fun _ _ _ _ _ _ us hl => bl2 (p := fun us => bindArgs _ ⟨us,[]⟩ = pure (List.zip _ us)) hl fun _ _ => rfl⟩
 have Y13:Callee l.prog w K mg base (CXE l.prog w) 5 "read_picture" f13 _ ["rows"] (j5 C1) := ⟨JX F13 (PySem.W.mg_none_of X G z_sorted) (PySem.W.mg_none_of X G z_set) (PySem.W.mg_none_of X G z_len) ⟨PySem.W.mg_of X G C1m,ex1⟩ ⟨PySem.W.mg_of X G C3m,ex3⟩ xc3 mN Y11 Y12 Y10,PySem.W.mg_of X G a13,k13,F13.binds fun _ _ _ _ _ _ us hl => bl1 (p := fun us => bindArgs _ ⟨us,[]⟩ = pure (List.zip _ us)) hl fun _ => rfl⟩
 have Y14:Callee l.prog w K mg base CX0 1 "_law_stir" f14 _ ["cell","k"] Yr := ⟨Jv F14,PySem.W.mg_of X G a14,k14,F14.binds fun _ _ _ _ _ _ us hl => bl2 (p := fun us => bindArgs _ ⟨us,[]⟩ = pure (List.zip _ us)) hl fun _ _ => rfl⟩
 have Y15:Callee l.prog w K mg base CX0 2 "_law_cell" f15 _ ["script","k"] (jS K) := ⟨Jw F15 (PySem.W.mg_none_of X G z_len) Y14,PySem.W.mg_of X G a15,k15,F15.binds fun _ _ _ _ _ _ us hl => bl2 (p := fun us => bindArgs _ ⟨us,[]⟩ = pure (List.zip _ us)) hl fun _ _ => rfl⟩
 have Y16:Callee l.prog w K mg base CX0 1 "_law_grown" f16 _ ["boxes","at","way","many"] Zk := ⟨QS F16 (PySem.W.mg_none_of X G z_len) (PySem.W.mg_none_of X G z_range) (PySem.W.mg_none_of X G z_min) (PySem.W.mg_none_of X G z_max),PySem.W.mg_of X G a16,k16,F16.binds fun _ _ _ _ _ _ us hl => bl4 (p := fun us => bindArgs _ ⟨us,[]⟩ = pure (List.zip _ us)) hl fun _ _ _ _ => rfl⟩
 have Y17:Callee l.prog w K mg base CX0 1 "_law_wheel" f17 _ ["box","rest"] Zi := ⟨QR F17,PySem.W.mg_of X G a17,k17,F17.binds fun _ _ _ _ _ _ us hl => bl2 (p := fun us => bindArgs _ ⟨us,[]⟩ = pure (List.zip _ us)) hl fun _ _ => rfl⟩
 have Y18:Callee l.prog w K mg base CX0 2 "_law_grid" f18 _ ["cells","many"] (Yt K) := ⟨Jx F18 (PySem.W.mg_none_of X G z_len) Y17 Y16,PySem.W.mg_of X G a18,k18,F18.binds fun _ _ _ _ _ _ us hl => bl2 (p := fun us => bindArgs _ ⟨us,[]⟩ = pure (List.zip _ us)) hl fun _ _ => rfl⟩
 have Y19:Callee l.prog w K mg base CX0 3 "_law_lines" f19 _ ["script","first","many","most"] (Zg K) := ⟨QQ F19 (PySem.W.mg_none_of X G z_range) Y15,PySem.W.mg_of X G a19,k19,F19.binds fun _ _ _ _ _ _ us hl => bl4 (p := fun us => bindArgs _ ⟨us,[]⟩ = pure (List.zip _ us)) hl fun _ _ _ _ => rfl⟩
 have Y20:Callee l.prog w K mg base CX0 4 "_law_laid" f20 _ ["boxes","xs","ys"] (Yw T0) := ⟨Jy F20 rfl (ZO Cd0 X B lc0) M (PySem.W.mg_none_of X G z_sorted),PySem.W.mg_of X G a20,k20,F20.binds fun _ _ _ _ _ _ us hl => bl3 (p := fun us => bindArgs _ ⟨us,[]⟩ = pure (List.zip _ us)) hl fun _ _ _ => rfl⟩
 have Y21:Callee l.prog w K mg base CX0 6 "_law_refused" f21 _ ["rows"] wM := ⟨We F21 (PySem.W.mg_none_of X G z_isinstance) ZK Y13,PySem.W.mg_of X G a21,k21,F21.binds fun _ _ _ _ _ _ us hl => bl1 (p := fun us => bindArgs _ ⟨us,[]⟩ = pure (List.zip _ us)) hl fun _ => rfl⟩
 have Y22:Callee l.prog w K mg base CX0 4 "_law_due" f22 _ ["rows"] (Wg T1) := ⟨zaS F22 rfl (ZO Cd1 X B lc1) M (PySem.W.mg_none_of X G z_sorted) (PySem.W.mg_none_of X G z_set) (PySem.W.mg_none_of X G z_range) (PySem.W.mg_none_of X G z_len) (PySem.W.mg_none_of X G z_tuple),PySem.W.mg_of X G a22,k22,F22.binds fun _ _ _ _ _ _ us hl => bl1 (p := fun us => bindArgs _ ⟨us,[]⟩ = pure (List.zip _ us)) hl fun _ => rfl⟩
 have Y23:Callee l.prog w K mg base CX0 7 "_law_either" f23 _ ["rows"] (jJ T1) := ⟨Qt F23 (PySem.W.mg_none_of X G z_isinstance) (PySem.W.mg_none_of X G z_list) (PySem.W.mg_none_of X G z_tuple) Y22 Y21 Y13,PySem.W.mg_of X G a23,k23,F23.binds fun _ _ _ _ _ _ us hl => bl1 (p := fun us => bindArgs _ ⟨us,[]⟩ = pure (List.zip _ us)) hl fun _ => rfl⟩
 have Y24:Callee l.prog w K mg base CX0 1 "_law_small" f24 _ ["cell"] Zw := ⟨Jg F24 (PySem.W.mg_none_of X G z_len) (PySem.W.mg_none_of X G z_range),PySem.W.mg_of X G a24,k24,F24.binds fun _ _ _ _ _ _ us hl => bl1 (p := fun us => bindArgs _ ⟨us,[]⟩ = pure (List.zip _ us)) hl fun _ => rfl⟩
 have Y25:Callee l.prog w K mg base CX0 1 "_law_spoilt" f25 _ ["rows","cell"] Zv := ⟨Jd F25 (PySem.W.mg_none_of X G z_len) (PySem.W.mg_none_of X G z_list),PySem.W.mg_of X G a25,k25,F25.binds fun _ _ _ _ _ _ us hl => bl2 (p := fun us => bindArgs _ ⟨us,[]⟩ = pure (List.zip _ us)) hl fun _ _ => rfl⟩
 have Y26:Callee l.prog w K mg base CX0 1 "_law_rows" f26 _ ["wide","high","boxes"] YW := ⟨J9 F26 (PySem.W.mg_none_of X G z_len) (PySem.W.mg_none_of X G z_range),PySem.W.mg_of X G a26,k26,F26.binds fun _ _ _ _ _ _ us hl => bl3 (p := fun us => bindArgs _ ⟨us,[]⟩ = pure (List.zip _ us)) hl fun _ _ _ => rfl⟩
 exact zaW F27 (PySem.W.mg_none_of X G z_range) (PySem.W.mg_none_of X G z_list) hTT Y15 Y19 Y20 Y18 Y26 Y23 Y25 Y24 Y21
end _K4
theorem PySem.W.Fast.tw7278885246559405043:True := True.intro
theorem PySem.W.Fast.te10877567711307245890:True := True.intro
theorem PySem.W.Fast.tw12549822465797133287:True := True.intro
theorem PySem.W.Fast.tw8973572542505448175:True := True.intro
theorem PySem.W.Fast.tw24062981376944135:True := True.intro
theorem PySem.W.Fast.tw631009430052743794:True := True.intro
theorem PySem.W.Fast.tw8299114013928821534:True := True.intro
theorem PySem.W.Fast.tw17824676967008040843:True := True.intro
theorem PySem.W.Fast.tw2581996649585206626:True := True.intro
theorem PySem.W.Fast.tw8518882273061670726:True := True.intro
theorem PySem.W.Fast.tw4578370965551167289:True := True.intro
theorem PySem.W.Fast.tw5089533218803025048:True := True.intro
theorem PySem.W.Fast.tw2231854521261603084:True := True.intro
theorem PySem.W.Fast.tw9755361862137553174:True := True.intro
theorem PySem.W.Fast.tw16455378147059085094:True := True.intro
theorem PySem.W.Fast.tw9238343870205794942:True := True.intro
theorem PySem.W.Fast.tw1973949504926581436:True := True.intro
theorem PySem.W.Fast.tw11839572465025306844:True := True.intro
theorem PySem.W.Fast.tw17431470201538086123:True := True.intro
theorem PySem.W.Fast.tw12121168875040608585:True := True.intro
theorem PySem.W.Fast.tw10314398936369540808:True := True.intro
theorem PySem.W.Fast.tw15677264745514558446:True := True.intro
theorem PySem.W.Fast.tw9681387729736106259:True := True.intro
theorem PySem.W.Fast.tw10968422829289454870:True := True.intro
theorem PySem.W.Fast.tw9924197277296003717:True := True.intro
theorem PySem.W.Fast.tw1888003710975411710:True := True.intro
theorem PySem.W.Fast.tw7844648250658735486:True := True.intro
theorem PySem.W.Fast.tw8519545118524840166:True := True.intro
theorem PySem.W.Fast.tw6006368847416702927:True := True.intro
theorem PySem.W.Fast.tw14072155446521157516:True := True.intro
theorem PySem.W.Fast.tw1717818526358291319:True := True.intro
theorem PySem.W.Fast.tw6152344208840285898:True := True.intro
theorem PySem.W.Fast.tw16597673943930481342:True := True.intro
theorem PySem.W.Fast.tw2218853120818274817:True := True.intro
theorem PySem.W.Fast.tw2366994347399321813:True := True.intro
theorem PySem.W.Fast.tw11445494672210525355:True := True.intro
theorem PySem.W.Fast.tw477666694805982025:True := True.intro
theorem PySem.W.Fast.tw4831419490162207366:True := True.intro
theorem PySem.W.Fast.tw9194873393457985159:True := True.intro
theorem PySem.W.Fast.tw415379083614169323:True := True.intro
theorem PySem.W.Fast.tw18169057365322635611:True := True.intro
theorem PySem.W.Fast.tw11412921095991333969:True := True.intro
theorem PySem.W.Fast.tw13183653194359533406:True := True.intro
theorem PySem.W.Fast.tw10657815025305274679:True := True.intro
theorem PySem.W.Fast.tw7633221140850887860:True := True.intro
theorem PySem.W.Fast.tw6608938467495619669:True := True.intro
theorem PySem.W.Fast.tw9656841688004854673:True := True.intro
theorem PySem.W.Fast.tw17382294472551909209:True := True.intro
theorem PySem.W.Fast.tw14783483251874429291:True := True.intro
theorem PySem.W.Fast.tw5123420188135134775:True := True.intro
theorem PySem.W.Fast.tw6197175287793372832:True := True.intro
theorem PySem.W.Fast.tw5996165840134375724:True := True.intro
theorem PySem.W.Fast.tw3889526799194924214:True := True.intro
theorem PySem.W.Fast.tw17303229124142037365:True := True.intro
theorem PySem.W.Fast.tw13692305390644318725:True := True.intro
theorem PySem.W.Fast.tw8311715712580366645:True := True.intro
theorem PySem.W.Fast.tw6864751092617084504:True := True.intro
theorem PySem.W.Fast.tw14031692882666261567:True := True.intro
theorem PySem.W.Fast.tw3115253375022222256:True := True.intro
theorem PySem.W.Fast.tw5674759126357705380:True := True.intro
theorem PySem.W.Fast.tw2099959402929712975:True := True.intro
theorem PySem.W.Fast.tw6454004825570294800:True := True.intro
theorem PySem.W.Fast.tw8437927809157624709:True := True.intro
theorem PySem.W.Fast.tw10265002073660083287:True := True.intro
theorem PySem.W.Fast.tw18422744407826174431:True := True.intro
theorem PySem.W.Fast.tw4787477056372182502:True := True.intro
theorem PySem.W.Fast.tw11885377442039092725:True := True.intro
theorem PySem.W.Fast.tw11669083579366536318:True := True.intro
theorem PySem.W.Fast.tw15100281906432632501:True := True.intro
theorem PySem.W.Fast.tw3057088936918129260:True := True.intro
theorem PySem.W.Fast.tw15414007099679332459:True := True.intro
theorem PySem.W.Fast.tw18047216688315693580:True := True.intro
theorem PySem.W.Fast.tw5107475140943854255:True := True.intro
theorem PySem.W.Fast.tw1741096006716518385:True := True.intro
theorem PySem.W.Fast.tw15097470081047254360:True := True.intro
theorem PySem.W.Fast.tw1972850069549072178:True := True.intro
theorem PySem.W.Fast.tw4799744660130237041:True := True.intro
theorem PySem.W.Fast.tw18395151864996696774:True := True.intro
theorem PySem.W.Fast.tw5862703908054072939:True := True.intro
theorem PySem.W.Fast.tw9066329706502278633:True := True.intro
theorem PySem.W.Fast.tw17480202901653313236:True := True.intro
theorem PySem.W.Fast.tw1015768030448019955:True := True.intro
theorem PySem.W.Fast.tw15808097116443722754:True := True.intro
theorem PySem.W.Fast.tw6285183114006580236:True := True.intro
theorem PySem.W.Fast.tw120230573385679319:True := True.intro
theorem PySem.W.Fast.tw5325545530433713506:True := True.intro
theorem PySem.W.Fast.tw15002579757866392173:True := True.intro
theorem PySem.W.Fast.tw4801931109138820628:True := True.intro
theorem PySem.W.Fast.tw6890262230815523149:True := True.intro
theorem PySem.W.Fast.tw8040594639444876503:True := True.intro
theorem PySem.W.Fast.tw3167995458953403571:True := True.intro
theorem PySem.W.Fast.tw2979582599327161512:True := True.intro
theorem PySem.W.Fast.tw15513053570521912815:True := True.intro
theorem PySem.W.Fast.tw1977497905095936534:True := True.intro
theorem PySem.W.Fast.tw13312797508306545242:True := True.intro
theorem PySem.W.Fast.tw5230922239672408661:True := True.intro
theorem PySem.W.Fast.tw17419131044849612178:True := True.intro
theorem PySem.W.Fast.tw3768653114749255709:True := True.intro
theorem PySem.W.Fast.tw5466851628140872703:True := True.intro
theorem PySem.W.Fast.tw17102179684131760044:True := True.intro
theorem PySem.W.Fast.tw7872556108799557030:True := True.intro
theorem PySem.W.Fast.tw14517021004401552609:True := True.intro
theorem PySem.W.Fast.tw8608614769929175732:True := True.intro
theorem PySem.W.Fast.tw8986249616976006956:True := True.intro
theorem PySem.W.Fast.tw6358939351473445739:True := True.intro
theorem PySem.W.Fast.tw12005376765256193838:True := True.intro
theorem PySem.W.Fast.tw10624122707999529201:True := True.intro
theorem PySem.W.Fast.tw14667485005923447869:True := True.intro
theorem PySem.W.Fast.tw6243098369164998738:True := True.intro
theorem PySem.W.Fast.tw6609638657764530798:True := True.intro
theorem PySem.W.Fast.tw13624037055146148904:True := True.intro
theorem PySem.W.Fast.tw15620222087987177265:True := True.intro
theorem PySem.W.Fast.tw15154014141263096238:True := True.intro
theorem PySem.W.Fast.tw4340434459916964416:True := True.intro
theorem PySem.W.Fast.tw10677824640166557559:True := True.intro
theorem PySem.W.Fast.tw14103141471044352984:True := True.intro
theorem PySem.W.Fast.tw13018199993614086017:True := True.intro
theorem PySem.W.Fast.tw2492387653607539263:True := True.intro
theorem PySem.W.Fast.tw166769368065975133:True := True.intro
theorem PySem.W.Fast.tw6235120539761350129:True := True.intro
theorem PySem.W.Fast.tw11971511712419376335:True := True.intro
theorem PySem.W.Fast.tw12996463940329286988:True := True.intro
theorem PySem.W.Fast.tw10125043627215952814:True := True.intro
theorem PySem.W.Fast.tw14290677899675178499:True := True.intro
theorem PySem.W.Fast.tw3830035362099870067:True := True.intro
theorem PySem.W.Fast.tw13959439633266789729:True := True.intro
theorem PySem.W.Fast.tw11207772588889978855:True := True.intro
theorem PySem.W.Fast.tw17060610014603033714:True := True.intro
theorem PySem.W.Fast.tw16925176354696284551:True := True.intro
theorem PySem.W.Fast.tw12789095950266744027:True := True.intro
theorem PySem.W.Fast.tw10006453003029282423:True := True.intro
theorem PySem.W.Fast.tw18272986035986232887:True := True.intro
theorem PySem.W.Fast.tw17410033797851232321:True := True.intro
theorem PySem.W.Fast.tw8662031513489062311:True := True.intro
theorem PySem.W.Fast.tw15948765928388556804:True := True.intro
theorem PySem.W.Fast.tw9252239858177636401:True := True.intro
theorem PySem.W.Fast.tw7012321920462526394:True := True.intro
theorem PySem.W.Fast.tw2642858958341355563:True := True.intro
theorem PySem.W.Fast.tw13989577525115970558:True := True.intro
theorem PySem.W.Fast.tw9970993789568572855:True := True.intro
open PySem PySem.W PyProof.Rows
set_option maxRecDepth 100000 in
set_option maxHeartbeats 0 in
theorem PySem.Challenge.cw_pagepart_k04_pictures_refused_holds : PySem.Challenge.rw_pagepart_k04_pictures_refused.Holds := by
 w_on; o_law; k_head; (case hw => w_witness2)
 k_fill
 refine _L2.Qp (l := PySem.Challenge.rw_pagepart_k04_pictures_refused) (n := 63) (k := 8) (x := "script") (x1 := "_law_laid") (x2 := "_law_due") (CX := fun _ => _L2.CX0) (T := ?T0) (c := ?c) (T' := ?T1) (c' := ?c') (sp := fun w => _K4.Wn _ ?T0 ?T1) rfl (by decide) rfl ⟨rfl,by decide,by decide⟩ (fun w h Y => PySem.W.km_in_of Y) ?hrec ?htab ?hKT ?hrec2 ?htab2 ?hKT2 ?F (fun w H a ns hl hT hT' hS => ⟨a,ns,rfl,hS,hT,hT',fun _ => rfl⟩) fun _ _ _ _ _ z => z
 case htab =>
   intro w
   refine' _L2.Qn ?x1 ?x2 ?x3 ?x4 ?x5
   (case x1 => k_is); (case x2 => k_is); (case x3 => rfl); (case x4 => k_is); (case x5 => rfl)
 case htab2 =>
   intro w
   refine' _L2.Qn ?x1 ?x2 ?x3 ?x4 ?x5
   (case x1 => k_is); (case x2 => k_is); (case x3 => rfl); (case x4 => k_is); (case x5 => rfl)
 case hrec => decide +kernel
 case hrec2 => decide +kernel
 case hKT => intro w; kernel_rfl
 case hKT2 => intro w; kernel_rfl
 case F =>
   intro w mg fa h KX G hmg Cd0 Cd1
   refine' _root_._K4.all_mk KX G hmg Cd0 Cd1 (by decide) ?a0 ?l0 ?c0 ?k0 ?a1 ?l1 ?c1 ?k1 ?a2 ?l2 ?c2 ?k2 ?a3 ?l3 ?c3 ?k3 ?a4 ?l4 ?c4 ?k4 ?a5 ?l5 ?c5 ?k5 ?a6 ?l6 ?c6 ?k6 ?a7 ?l7 ?c7 ?k7 ?a8 ?l8 ?c8 ?k8 ?a9 ?l9 ?c9 ?k9 ?a10 ?l10 ?c10 ?k10 ?a11 ?l11 ?c11 ?k11 ?a12 ?l12 ?c12 ?k12 ?a13 ?l13 ?c13 ?k13 ?a14 ?l14 ?c14 ?k14 ?a15 ?l15 ?c15 ?k15 ?a16 ?l16 ?c16 ?k16 ?a17 ?l17 ?c17 ?k17 ?a18 ?l18 ?c18 ?k18 ?a19 ?l19 ?c19 ?k19 ?a20 ?l20 ?c20 ?k20 ?a21 ?l21 ?c21 ?k21 ?a22 ?l22 ?c22 ?k22 ?a23 ?l23 ?c23 ?k23 ?a24 ?l24 ?c24 ?k24 ?a25 ?l25 ?c25 ?k25 ?a26 ?l26 ?c26 ?k26 ?a27 ?l27 ?c27 ?k27 ?lc0 ?lc1 ?C0m ?C1m ?C2m ?C3m ?C4m ?C5m ?C6m ?C7m ?C8m ?C9m ?z_len ?z_range ?z_min ?z_max ?z_sorted ?z_enumerate ?z_isinstance ?z_int ?z_bool ?z_tuple ?z_list ?z_all ?z_any ?z_sum ?z_ValueError ?z_set ?z_str ?g_LEFT ?g_TOP ?g_RIGHT ?g_BELOW ?g_MOST_BOXES ?ex1 ?ex3 ?e0a ?e0b ?e0c ?e0f ?e0g ?e0h ?e0i ?e1a ?e1b ?e1c ?e1f ?e1g ?e1h ?e1i ?e3a ?e3b ?e3c ?e3f ?e3g ?e3h ?e3i ?ed ?ee ?up ?mN ?q1 ?qv ?qA ?qB ?ib ?tt ?kb ?ki_NoneType ?ki_str ?ki_list ?ki_tuple ?ki_dict ?kt_NoneType ?kt_bool ?kt_str ?kt_list ?kt_dict
   (case a0 => k_is)
   (case l0 => k_is)
   (case c0 => k_is)
   (case k0 => k_is)
   (case a1 => k_is)
   (case l1 => k_is)
   (case c1 => k_is)
   (case k1 => k_is)
   (case a2 => k_is)
   (case l2 => k_is)
   (case c2 => k_is)
   (case k2 => k_is)
   (case a3 => k_is)
   (case l3 => k_is)
   (case c3 => k_is)
   (case k3 => k_is)
   (case a4 => k_is)
   (case l4 => k_is)
   (case c4 => k_is)
   (case k4 => k_is)
   (case a5 => k_is)
   (case l5 => k_is)
   (case c5 => k_is)
   (case k5 => k_is)
   (case a6 => k_is)
   (case l6 => k_is)
   (case c6 => k_is)
   (case k6 => k_is)
   (case a7 => k_is)
   (case l7 => k_is)
   (case c7 => k_is)
   (case k7 => k_is)
   (case a8 => k_is)
   (case l8 => k_is)
   (case c8 => k_is)
   (case k8 => k_is)
   (case a9 => k_is)
   (case l9 => k_is)
   (case c9 => k_is)
   (case k9 => k_is)
   (case a10 => k_is)
   (case l10 => k_is)
   (case c10 => k_is)
   (case k10 => k_is)
   (case a11 => k_is)
   (case l11 => k_is)
   (case c11 => k_is)
   (case k11 => k_is)
   (case a12 => k_is)
   (case l12 => k_is)
   (case c12 => k_is)
   (case k12 => k_is)
   (case a13 => k_is)
   (case l13 => k_is)
   (case c13 => k_is)
   (case k13 => k_is)
   (case a14 => k_is)
   (case l14 => k_is)
   (case c14 => k_is)
   (case k14 => k_is)
   (case a15 => k_is)
   (case l15 => k_is)
   (case c15 => k_is)
   (case k15 => k_is)
   (case a16 => k_is)
   (case l16 => k_is)
   (case c16 => k_is)
   (case k16 => k_is)
   (case a17 => k_is)
   (case l17 => k_is)
   (case c17 => k_is)
   (case k17 => k_is)
   (case a18 => k_is)
   (case l18 => k_is)
   (case c18 => k_is)
   (case k18 => k_is)
   (case a19 => k_is)
   (case l19 => k_is)
   (case c19 => k_is)
   (case k19 => k_is)
   (case a20 => k_is)
   (case l20 => k_is)
   (case c20 => k_is)
   (case k20 => k_is)
   (case a21 => k_is)
   (case l21 => k_is)
   (case c21 => k_is)
   (case k21 => k_is)
   (case a22 => k_is)
   (case l22 => k_is)
   (case c22 => k_is)
   (case k22 => k_is)
   (case a23 => k_is)
   (case l23 => k_is)
   (case c23 => k_is)
   (case k23 => k_is)
   (case a24 => k_is)
   (case l24 => k_is)
   (case c24 => k_is)
   (case k24 => k_is)
   (case a25 => k_is)
   (case l25 => k_is)
   (case c25 => k_is)
   (case k25 => k_is)
   (case a26 => k_is)
   (case l26 => k_is)
   (case c26 => k_is)
   (case k26 => k_is)
   (case a27 => k_is)
   (case l27 => k_is)
   (case c27 => k_is)
   (case k27 => k_is)
   (case lc0 => k_is)
   (case lc1 => k_is)
   (case C0m => k_is)
   (case C1m => k_is)
   (case C2m => k_is)
   (case C3m => k_is)
   (case C4m => k_is)
   (case C5m => k_is)
   (case C6m => k_is)
   (case C7m => k_is)
   (case C8m => k_is)
   (case C9m => k_is)
   (case z_len => k_is)
   (case z_range => k_is)
   (case z_min => k_is)
   (case z_max => k_is)
   (case z_sorted => k_is)
   (case z_enumerate => k_is)
   (case z_isinstance => k_is)
   (case z_int => k_is)
   (case z_bool => k_is)
   (case z_tuple => k_is)
   (case z_list => k_is)
   (case z_all => k_is)
   (case z_any => k_is)
   (case z_sum => k_is)
   (case z_ValueError => k_is)
   (case z_set => k_is)
   (case z_str => k_is)
   (case g_LEFT => k_is)
   (case g_TOP => k_is)
   (case g_RIGHT => k_is)
   (case g_BELOW => k_is)
   (case g_MOST_BOXES => k_is)
   (case ex1 => kernel_rfl)
   (case ex3 => kernel_rfl)
   (case e0a => k_is)
   (case e0b => k_is)
   (case e0c => k_is)
   (case e0f => k_is)
   (case e0g => k_is)
   (case e0h => k_is)
   (case e0i => kernel_rfl)
   (case e1a => k_is)
   (case e1b => k_is)
   (case e1c => k_is)
   (case e1f => k_is)
   (case e1g => k_is)
   (case e1h => k_is)
   (case e1i => kernel_rfl)
   (case e3a => k_is)
   (case e3b => k_is)
   (case e3c => k_is)
   (case e3f => k_is)
   (case e3g => k_is)
   (case e3h => k_is)
   (case e3i => kernel_rfl)
   (case ed => k_is)
   (case ee => k_is)
   (case up => k_is)
   (case mN => k_is)
   (case q1 => kernel_rfl)
   (case qv => kernel_rfl)
   (case qA => kernel_rfl)
   (case qB => kernel_rfl)
   (case ib => kernel_rfl)
   (case tt => kernel_rfl)
   (case kb => kernel_rfl)
   (case ki_NoneType => kernel_rfl)
   (case ki_str => kernel_rfl)
   (case ki_list => kernel_rfl)
   (case ki_tuple => kernel_rfl)
   (case ki_dict => kernel_rfl)
   (case kt_NoneType => kernel_rfl)
   (case kt_bool => kernel_rfl)
   (case kt_str => kernel_rfl)
   (case kt_list => kernel_rfl)
   (case kt_dict => kernel_rfl)
#print axioms PySem.Challenge.cw_pagepart_k04_pictures_refused_holds
