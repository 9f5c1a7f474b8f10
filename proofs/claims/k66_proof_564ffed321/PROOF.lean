import PyProof.Rows.All
import Wide.All
import OpenK.AllK
import Wide.FinOn
import Lean
import PyProof.EqAt
import PyProof.EqKinds
import PyProof.TupleCall
import PyProof.Draws
import PyProof.EnumMake
import PyProof.TupleIter
import PyProof.WalksMore
import PyProof.MinMaxWalk
import PyProof.SeqI3
import KE.KSortTup
import KE.KLam
import KE.KIsAll
import PyProof.Rows.CallKwBuiltin
import PyProof.SumWalk
import PyProof.CompFree
import PyProof.CompUse
import PyProof.ConsumeWalk
import PyProof.NeKinds
import PyProof.Rows.StrJoin2
import PyProof.Rows.SortShell
import PyProof.StrBlock2
import PyProof.StrWalks
import PyProof.FString5
import PyProof.ZipIter
import PyProof.Rows.StrSplitAre
import PyProof.StrLawsTight
import PyProof.SumWalkG
import KE.KRevIter
import PyProof.AutoSeq1
import PyProof.Rows.SortWalk
import PyProof.Rows.SeqMore
import PyProof.ListNew
import PyProof.CollectWalk
import KE.KUnpack
import PyProof.Conv_int_bool
import PyProof.StrBlock
import PyProof.SliceStr2
import PySem.Challenge.RW_pagepart_k66_printed
set_option Elab.async false
set_option linter.all false
set_option maxHeartbeats 4000000
set_option maxRecDepth 100000
namespace L2
open PySem PySem.Spec PyProof.Rows
abbrev Key := Sum Int Str
def Jx:Key -> Value -> Bool
 | .inl k,v => Value.isInt k v
 | .inr x,v => Value.isStrOf x v
def keyH (w:World):Key -> Int
 | .inl k => hashInt k
 | .inr x => hashStr w x
theorem yn:∀ {k:Key} {v:Value},Jx k v = true -> (∃ i t,k = Sum.inl i /\ v = Value.int i t) \/ (∃ x t,k = Sum.inr x /\ v = Value.str x t)
 | .inl i,v,h => by
   obtain ⟨t,e⟩ := Value.isInt_shape (k := i) (v := v) h
   exact .inl ⟨i,t,rfl,e⟩
 | .inr x,v,h => by
   obtain ⟨t,e⟩ := Value.isStrOf_shape (x := x) (v := v) h
   exact .inr ⟨x,t,rfl,e⟩
theorem zaT (a b:Int):decide ((Sum.inl a:Key) = Sum.inl b) = (a == b) := by
 by_cases e:a = b
 · subst e; simp
 · have h:¬ (Sum.inl a:Key) = Sum.inl b := fun q => e (Sum.inl.inj q)
   rw [decide_eq_false h]
   exact (beq_eq_false_iff_ne.mpr e).symm
theorem zaU (a b:Str):decide ((Sum.inr a:Key) = Sum.inr b) = decide (a = b) := by
 by_cases e:a = b
 · subst e; simp
 · have h:¬ (Sum.inr a:Key) = Sum.inr b := fun q => e (Sum.inr.inj q)
   rw [decide_eq_false h,decide_eq_false e]
theorem zaV (a:Int) (b:Str):decide ((Sum.inl a:Key) = Sum.inr b) = false := decide_eq_false (fun q => nomatch q)
theorem zaW (a:Str) (b:Int):decide ((Sum.inr a:Key) = Sum.inl b) = false := decide_eq_false (fun q => nomatch q)
def j2 (prog:Program) (w:World):PySem.KeyKind prog w Key where
 is := Jx
 hash := keyH w
 inj := fun v a b ha hb => by
   rcases yn ha with ⟨i,t,rfl,rfl⟩ | ⟨x,t,rfl,rfl⟩
   · rcases yn hb with ⟨j,u,rfl,e⟩ | ⟨y,u,rfl,e⟩
     · injection e with e1 _; rw [e1]
     · exact nomatch e
   · rcases yn hb with ⟨j,u,rfl,e⟩ | ⟨y,u,rfl,e⟩
     · exact nomatch e
     · injection e with e1 _; rw [e1]
 byValue := fun k v h => by
   rcases yn h with ⟨i,t,rfl,rfl⟩ | ⟨x,t,rfl,rfl⟩ <;> rfl
 pyHash := fun hv h => by
   rcases yn hv with ⟨i,t,rfl,rfl⟩ | ⟨x,t,rfl,rfl⟩
   · exact wpAny_pyHash_int h
   · exact wpAny_pyHash_str h
 eqBool := fun hu hv h => by
   rcases yn hu with ⟨i,t,rfl,rfl⟩ | ⟨x,t,rfl,rfl⟩
   · rcases yn hv with ⟨j,u,rfl,rfl⟩ | ⟨y,u,rfl,rfl⟩
     · rw [zaT] at h; exact wpAny_eqBool_int h
     · rw [zaV] at h; exact SeqAt.EqAt.int_str i t y u _ _ _ _ h
   · rcases yn hv with ⟨j,u,rfl,rfl⟩ | ⟨y,u,rfl,rfl⟩
     · rw [zaW] at h; exact SeqAt.EqAt.str_int x t j u _ _ _ _ h
     · rw [zaU] at h; exact wpAny_eqBool_str h
 «strs» := fun k x t v h => by
   rcases yn h with ⟨i,u,rfl,e⟩ | ⟨y,u,rfl,e⟩
   · exact nomatch e
   · injection e with e1 _
     subst e1
     cases v <;> rfl
end L2
namespace L2
open PySem PySem.Spec PyProof.Rows
inductive V where
 | non | bl (b:Bool) | int (i:Int) | str (x:Str) | byt (b:Array UInt8) | flt (b:UInt64) | ref (a:Addr) | ty (n:String)
 deriving DecidableEq
def RelV:V -> Value -> Prop
 | .non,u => u = Value.none
 | .bl b,u => u = Value.bool b
 | .int i,u => ∃ t,u = Value.int i t
 | .str x,u => ∃ t,u = Value.str x t
 | .byt b,u => ∃ t,u = Value.bytes b t
 | .flt b,u => ∃ t,u = Value.float b t
 | .ref a,u => u = Value.ref a
 | .ty n,u => u = Value.type n
abbrev Vals:List V -> List Value -> Prop := Paired RelV
theorem Vals.length {xs:List V} {us:List Value} (r:Vals xs us):xs.length = us.length := Paired.length r
theorem Vals.get:∀ {xs:List V} {us:List Value} {i:Nat} {x:V},Vals xs us -> xs[i]? = some x -> ∃ u,us[i]? = some u /\ RelV x u
 | _,_,_,_,.nil,e => by simp at e
 | _,_,0,_,.cons r _,e => by simp at e; subst e; exact ⟨_,rfl,r⟩
 | _,_,i + 1,x,.cons _ t,e => by
   obtain ⟨u,h1,h2⟩ := Vals.get (i := i) (x := x) t (by simpa using e)
   exact ⟨u,by simpa using h1,h2⟩
theorem Vals.set {x:V} {u:Value} (r:RelV x u):∀ {xs:List V} {us:List Value} (i:Nat),Vals xs us -> Vals (xs.set i x) (us.set i u)
 | _,_,_,.nil => .nil
 | _,_,0,.cons _ t => .cons r t
 | _,_,i + 1,.cons q t => .cons q (Vals.set r i t)
theorem Vals.append:∀ {xs ys:List V} {us ws:List Value},Vals xs us -> Vals ys ws -> Vals (xs ++ ys) (us ++ ws)
 | _,_,_,_,.nil,s => s
 | _,_,_,_,.cons r t,s => .cons r (Vals.append t s)
theorem Vals.take:∀ {xs:List V} {us:List Value} (n:Nat),Vals xs us -> Vals (xs.take n) (us.take n)
 | _,_,0,_ => .nil
 | _,_,_ + 1,.nil => .nil
 | _,_,n + 1,.cons r t => .cons r (Vals.take n t)
theorem Vals.drop:∀ {xs:List V} {us:List Value} (n:Nat),Vals xs us -> Vals (xs.drop n) (us.drop n)
 | _,_,0,r => r
 | _,_,_ + 1,.nil => .nil
 | _,_,n + 1,.cons _ t => Vals.drop n t
def RelO:Option V -> Option Value -> Prop
 | some v,some u => RelV v u
 | none,none => True
 | _,_ => False
def KV {κ:Type}:List (κ × V) -> List (κ × Value) -> Prop := Paired fun (p:κ × V) (q:κ × Value) => p.1 = q.1 /\ RelV p.2 q.2
def kV:Key -> V
 | .inl i => .int i
 | .inr x => .str x
inductive HO where
 /-- a list -/
 | lst (xs:List V)
 /-- a tuple (never changes) -/
 | tup (xs:List V)
 /-- a dict whose keys are ints and texts; one whose keys are tuples of ints and texts (the empty one is both) -/
 | dK (kvs:List (Key × V)) | dT (kvs:List (List Key × V))
 /-- a set of ints: its members,its size -/
 | set (S:Int -> Bool) (n:Nat)
 /-- an instance of the class at C,its dict at dx,its attributes -/
 | ins (C dx:Addr) (fs:List (Str × V))
 /-- the dict of the instance at x -/
 | own (x:Addr)
 /-- the dict of an exception -/
 | xd (fs:List (Str × V))
 /-- a bound method,f of x -/
 | met (f x:Addr)
 /-- a range object lo,lo + 1,.. below hi -/
 | rng (lo hi:Int)
 /-- a thing that is known to the object (the script; a dict while a loop walks it): read,never written while it is so -/
 | frz (o:Obj) (u:HO)
 /-- a code object's table -/
 | tbl (ps:Array Value)
 /-- any other thing,by what is true of its one object (a def of one's own: SetO a S n := HO.ext fun h => ..) -/
 | ext (φ:Heap -> Prop)
abbrev Hp := Addr -> Option HO
def upd (H:Hp) (a:Addr) (o:HO):Hp := fun b => if b = a then some o else H b
theorem zc {H:Hp} {a:Addr} {o:HO}:upd H a o a = some o := by unfold upd; rw [if_pos rfl]
theorem zp {H:Hp} {a b:Addr} {o:HO} (h:b ≠ a):upd H a o b = H b := by unfold upd; rw [if_neg h]
theorem y9 {H:Hp} {a b:Addr} {o u:HO} (h:H a = some o) (h':H b = some u) (d:o ≠ u):a ≠ b := by
 intro e; subst e; rw [h] at h'; exact d (Option.some.inj h')
theorem zI {H:Hp} {a b:Addr} {o:HO} (h:H a = some o) (h':H b = none):a ≠ b := by
 intro e; subst e; rw [h] at h'; cases h'
section
variable (P:Program) (w:World)
def yj (H:Hp) (h:Heap) (a:Addr):HO -> Prop
 | .lst xs => xs.length <= sizeLine /\ ∃ (its:List Value) (n:Nat),Vals xs its /\ h.get? a = some { cls := .type "list",data := .seq its.toArray n }
 | .tup xs => xs.length <= sizeLine /\ ∃ its:List Value,Vals xs its /\ IsTup h a its.toArray
 | .dK kvs => kvs.length <= sizeLine /\ (a == sysModules) = false /\ ∃ vs,KV kvs vs /\ h.DictOf (j2 P w) a vs
 | .dT kvs => kvs.length <= sizeLine /\ (a == sysModules) = false /\ ∃ xs:List (List Key × Addr × Value),
     Paired (fun (p:List Key × V) (q:List Key × Addr × Value) => p.1 = q.1 /\ H q.2.1 = some (.tup (p.1.map kV)) /\ RelV p.2 q.2.2) kvs xs /\
     ∃ o es ep,h.get? a = some o /\ o.ExactDict /\ o.data = .dict es ep /\ es.toList = xs.map (entryOfKey (tupleKind (j2 P w))) /\ (xs.map (·.1)).Nodup
 | .set S n => h.SetOf (intKind P w) a S n
 | .ins C dx fs => H dx = some (.own a) /\ fs.length <= 1000 /\ dx ≠ a /\ h.get? a = some (PySem.W.instObj C dx) /\
     ∃ mA,h.Ns1 dx mA /\ (∀ f,RelO (fs.lookup f) (mA f)) /\ PySem.Within mA (fs.map (·.1))
 | .own _ => ∃ o,h.get? a = some o
 | .xd fs => ∃ mA,h.Ns1 a mA /\ ∀ f,RelO (fs.lookup f) (mA f)
 | .rng lo hi => ∃ t u v,h.get? a = some { cls := .type "range",data := .fields #[.int lo t,.int hi u,.int 1 v] }
 | .frz o u => h.get? a = some o /\ yj H h a u
 | .tbl ps => h.get? a = some { cls := .none,data := .fields ps }
 | .met f x => h.get? a = some (PySem.W.methodObj (.ref f) (.ref x))
 | .ext φ => φ h /\ (∃ o,h.get? a = some o) /\ ∀ h1 h2:Heap,φ h1 -> (∀ o,h1.get? a = some o -> h2.get? a = some o) -> φ h2
def HOk (H:Hp) (h:Heap):Prop := ∀ a o,H a = some o -> yj P w H h a o
end
section
variable {P:Program} {w:World} {H H':Hp} {h h':Heap} {a:Addr} {o:HO}
theorem yj.lt (x:yj P w H h a o):a < h.objs.size := by
 cases o with
 | lst xs => obtain ⟨_,_,_,_,e⟩ := x; exact Heap.lt_size e
 | tup xs => obtain ⟨_,_,_,p⟩ := x; exact p.lt
 | dK kvs => obtain ⟨_,_,_,_,o,_,_,e,_⟩ := x; exact Heap.lt_size e
 | dT kvs => obtain ⟨_,_,_,_,o,_,_,e,_⟩ := x; exact Heap.lt_size e
 | set S n => obtain ⟨o,_,_,_,e,_⟩ := x; exact Heap.lt_size e
 | ins C dx fs => obtain ⟨_,_,_,e,_⟩ := x; exact Heap.lt_size e
 | own y => obtain ⟨_,e⟩ := x; exact Heap.lt_size e
 | xd fs => obtain ⟨_,⟨_,_,_,e,_⟩,_⟩ := x; exact Heap.lt_size e
 | rng lo hi => obtain ⟨_,_,_,e⟩ := x; exact Heap.lt_size e
 | frz ob u => obtain ⟨e,_⟩ := x; exact Heap.lt_size e
 | tbl ps => exact Heap.lt_size (show h.get? a = some _ from x)
 | met f y => exact Heap.lt_size (show h.get? a = some _ from x)
 | ext φ => obtain ⟨_,⟨_,e⟩,_⟩ := x; exact Heap.lt_size e
theorem Paired.mapP {α β:Type} {F G:α -> β -> Prop}:∀ {l₁:List α} {l₂:List β},Paired F l₁ l₂ -> (∀ a b,F a b -> G a b) -> Paired G l₁ l₂
 | _,_,.nil,_ => .nil
 | _,_,.cons r t,f => .cons (f _ _ r) (Paired.mapP t f)
theorem Paired.imp' {α β:Type} {F G:α -> β -> Prop} (f:∀ a b,F a b -> G a b) {l₁:List α} {l₂:List β} (r:Paired F l₁ l₂):Paired G l₁ l₂ := Paired.mapP r f
theorem yj.stay (x:yj P w H h a o) (k:∀ b u,(b = a \/ H b = some (.own a)) -> h.get? b = some u -> h'.get? b = some u)
   (ho:∀ b,H b = some (.own a) -> H' b = some (.own a)) (ht:∀ b xs,H b = some (.tup xs) -> H' b = some (.tup xs)):yj P w H' h' a o := by
 induction o with
 | lst xs => obtain ⟨z,its,n,r,e⟩ := x; exact ⟨z,its,n,r,k _ _ (.inl rfl) e⟩
 | tup xs => obtain ⟨z,its,r,ob,e,c⟩ := x; exact ⟨z,its,r,ob,k _ _ (.inl rfl) e,c⟩
 | dK kvs => obtain ⟨z,y,vs,r,ob,es,ep,e,c⟩ := x; exact ⟨z,y,vs,r,ob,es,ep,k _ _ (.inl rfl) e,c⟩
 | dT kvs =>
   obtain ⟨z,y,xs,r,ob,es,ep,e,c⟩ := x
   exact ⟨z,y,xs,Paired.mapP r fun p q z => ⟨z.1,ht _ _ z.2.1,z.2.2⟩,ob,es,ep,k _ _ (.inl rfl) e,c⟩
 | set S n => obtain ⟨ob,es,ep,t,e,c⟩ := x; exact ⟨ob,es,ep,t,k _ _ (.inl rfl) e,c⟩
 | ins C dx fs =>
   obtain ⟨d,z,ne,e,mA,⟨od,es,ep,e2,c⟩,r⟩ := x
   exact ⟨ho _ d,z,ne,k _ _ (.inl rfl) e,mA,⟨od,es,ep,k _ _ (.inr d) e2,c⟩,r⟩
 | own y => obtain ⟨ob,e⟩ := x; exact ⟨ob,k _ _ (.inl rfl) e⟩
 | xd fs => obtain ⟨mA,⟨od,es,ep,e,c⟩,r⟩ := x; exact ⟨mA,⟨od,es,ep,k _ _ (.inl rfl) e,c⟩,r⟩
 | rng lo hi => obtain ⟨t,u,v,e⟩ := x; exact ⟨t,u,v,k _ _ (.inl rfl) e⟩
 | frz ob u ih => obtain ⟨e,q⟩ := x; exact ⟨k _ _ (.inl rfl) e,ih q⟩
 | tbl ps =>
   have e:h.get? a = some { cls := .none,data := .fields ps } := x
   show h'.get? a = some { cls := .none,data := .fields ps }
   exact k a _ (.inl rfl) e
 | met f y =>
   have e:h.get? a = some (PySem.W.methodObj (.ref f) (.ref y)) := x
   show h'.get? a = some (PySem.W.methodObj (.ref f) (.ref y))
   exact k a _ (.inl rfl) e
 | ext φ => obtain ⟨p,⟨o,e⟩,st⟩ := x; exact ⟨st _ _ p fun o q => k _ _ (.inl rfl) q,⟨o,k _ _ (.inl rfl) e⟩,st⟩
theorem HOk.lt (x:HOk P w H h) (e:H a = some o):a < h.objs.size := (x a o e).lt
theorem HOk.fresh (x:HOk P w H h) (e:h.objs.size <= a):H a = none := by
 cases q:H a with
 | none => rfl
 | some u => exact absurd (Nat.lt_of_lt_of_le (x.lt q) e) (Nat.lt_irrefl _)
theorem HOk.kept (x:HOk P w H h) (k:∀ b u,h.get? b = some u -> h'.get? b = some u):HOk P w H h' := fun a o e =>
 (x a o e).stay (fun b u _ q => k b u q) (fun _ q => q) fun _ _ q => q
theorem HOk.laid (x:HOk P w H h) (k:∀ b u,h.get? b = some u -> h'.get? b = some u) (hp:h.objs.size <= a) (new:yj P w (upd H a o) h' a o):HOk P w (upd H a o) h' := fun b u e => by
 have hn := x.fresh hp
 by_cases hb:b = a
 · subst hb; rw [zc] at e; cases e; exact new
 · rw [zp hb] at e
   exact (x b u e).stay (fun c v _ q => k c v q) (fun c q => by rw [zp (zI q hn)]; exact q) fun c xs q => by rw [zp (zI q hn)]; exact q
end
def Rd (H:Hp) (a:Addr) (u:HO):Prop := H a = some u \/ ∃ o,H a = some (.frz o u)
theorem Rd.ok {P:Program} {w:World} {H:Hp} {h:Heap} {a:Addr} {u:HO} (r:Rd H a u) (x:HOk P w H h):yj P w H h a u := by
 rcases r with r | ⟨o,r⟩
 · exact x a u r
 · obtain ⟨_,q⟩ := x a _ r
   exact q
def Mut:Option HO -> Prop
 | some (.lst _) => True
 | some (.dK _) => True
 | some (.dT _) => True
 | some (.set _ _) => True
 | some (.ins _ _ _) => True
 | some (.ext _) => True
 | _ => False
section
variable {P:Program} {w:World} {H:Hp} {h h':Heap} {x e:Addr} {o':HO}
theorem HOk.write (ok:HOk P w H h) (mu:Mut (H x)) (he:e = x \/ H e = some (.own x)) (k:∀ b u,b ≠ e -> h.get? b = some u -> h'.get? b = some u) (heo:∃ u,h'.get? e = some u)
   (new:yj P w (upd H x o') h' x o'):HOk P w (upd H x o') h' := fun b u q => by
 have nown:∀ c y,H c = some (.own y) -> c ≠ x := fun c y r z => by subst z; rw [r] at mu; exact mu
 have ntup:∀ c xs,H c = some (.tup xs) -> c ≠ x := fun c xs r z => by subst z; rw [r] at mu; exact mu
 by_cases hb:b = x
 · subst hb; rw [zc] at q; cases q; exact new
 · rw [zp hb] at q
   by_cases hbe:b = e
   · have q':H b = some (.own x) := by
       rcases he with z | z
       · exact absurd (hbe.trans z) hb
       · rw [hbe]; exact z
     rw [q] at q'; cases q'
     obtain ⟨v,hv⟩ := heo
     exact ⟨v,by rw [hbe]; exact hv⟩
   · refine (ok b u q).stay (fun c v hc r => k c v ?_ r) (fun c r => by rw [zp (nown c b r)]; exact r) fun c xs r => by rw [zp (ntup c xs r)]; exact r
     rcases hc with rfl | hc
     · exact hbe
     · rintro rfl
       rcases he with z | z
       · exact nown c b hc z
       · rw [hc] at z; cases z; exact hb rfl
end
structure Un (fs ex:List Addr) (H H':Hp) (h h':Heap):Prop where
 keep:∀ b o,h.get? b = some o -> H b = none -> b ∉ fs -> b ∉ ex -> h'.get? b = some o
 slot:∀ b o,h.get? b = some o -> H b = none -> b ∈ fs -> b ∉ ex -> ∃ sl,h'.get? b = some { o with slots := sl }
 free:∀ b o,h.get? b = some o -> H b = none -> b ∉ ex -> H' b = none
 there:∀ b o,h.get? b = some o -> b ∉ ex -> ∃ o',h'.get? b = some o'
 tups:∀ b xs,H b = some (.tup xs) -> H' b = some (.tup xs)
 frzs:∀ b o u,H b = some (.frz o u) -> H' b = some (.frz o u)
 tbls:∀ b ps,H b = some (.tbl ps) -> ∃ more,H' b = some (.tbl (ps ++ more))
section
variable {fs fs' ex ex':List Addr} {H H1 H2:Hp} {h h1 h2 h':Heap} {a x e:Addr} {o:HO}
theorem Un.any (u:Un fs ex H H1 h h1) {b:Addr} {ob:Obj} (q:h.get? b = some ob) (n:H b = none) (hx:b ∉ ex):∃ sl,h1.get? b = some { ob with slots := sl } := by
 by_cases hb:b ∈ fs
 · exact u.slot b ob q n hb hx
 · exact ⟨ob.slots,u.keep b ob q n hb hx⟩
theorem Un.kept (k:∀ b u,h.get? b = some u -> h'.get? b = some u):Un fs ex H H h h' :=
 ⟨fun b ob q _ _ _ => k b ob q,fun b ob q _ _ _ => ⟨ob.slots,k b ob q⟩,fun _ _ _ n _ => n,fun b ob q _ => ⟨ob,k b ob q⟩,fun _ _ q => q,fun _ _ _ q => q,fun _ ps q => ⟨#[],by rw [q]; simp⟩⟩
theorem Un.refl:Un fs ex H H h h := Un.kept fun _ _ q => q
theorem Un.laid (k:∀ b u,h.get? b = some u -> h'.get? b = some u) (hp:h.objs.size <= a) (hn:H a = none):Un fs ex H (upd H a o) h h' where
 keep := fun b u q _ _ _ => k b u q
 slot := fun b u q _ _ _ => ⟨u.slots,k b u q⟩
 free := fun b u q n _ => by rw [zp (Nat.ne_of_lt (Nat.lt_of_lt_of_le (Heap.lt_size q) hp))]; exact n
 there := fun b u q _ => ⟨u,k b u q⟩
 tups := fun b xs q => by rw [zp (zI q hn)]; exact q
 frzs := fun b u xs q => by rw [zp (zI q hn)]; exact q
 tbls := fun b ps q => ⟨#[],by rw [zp (zI q hn),q]; simp⟩
theorem Un.write (mu:Mut (H x)) (he:e = x \/ H e = some (.own x)) (k:∀ b u,b ≠ e -> h.get? b = some u -> h'.get? b = some u) (heo:∃ u,h'.get? e = some u):Un fs ex H (upd H x o) h h' := by
 have hx:∀ b,H b = none -> b ≠ x := fun b n z => by subst z; rw [n] at mu; exact mu
 have hb:∀ b,H b = none -> b ≠ e := fun b n z => by
   subst z
   rcases he with r | r
   · exact hx b n r
   · rw [n] at r; cases r
 have hm:∀ b u,H b = some u -> ¬ Mut (some u) -> b ≠ x := fun b u q nm z => by subst z; rw [q] at mu; exact nm mu
 refine ⟨fun b u q n _ _ => k b u (hb b n) q,fun b u q n _ _ => ⟨u.slots,k b u (hb b n) q⟩,fun b u q n _ => by rw [zp (hx b n)]; exact n,fun b u q _ => ?_,
   fun b xs q => by rw [zp (hm b _ q fun z => z)]; exact q,fun b u xs q => by rw [zp (hm b _ q fun z => z)]; exact q,fun b ps q => ⟨#[],by rw [zp (hm b _ q fun z => z),q]; simp⟩⟩
 by_cases hbe:b = e
 · subst hbe; exact heo
 · exact ⟨u,k b u hbe q⟩
end
def trk (h:Heap) (H:Hp):List Addr := (List.range h.objs.size).filter fun a => (H a).isSome
def hidT (h:Heap) (H:Hp):Heap := PySem.W.hideAll h (trk h H)
theorem Wp (h:Heap) (H:Hp):(hidT h H).objs.size = h.objs.size := PySem.W.hideAll_size _ _
theorem QK {h:Heap} {H:Hp} {b:Addr} {o:Obj} (e:h.get? b = some o) (n:H b = none):(hidT h H).get? b = some o :=
 PySem.W.hideAll_get _ e fun hm => by
   have q:(H b).isSome = true := (List.mem_filter.mp hm).2
   rw [n] at q; simp at q
theorem JO {h:Heap} {H:Hp} {b:Addr} {o:Obj} (e:(hidT h H).get? b = some o):h.get? b = some o /\ H b = none := by
 have e':h.get? b = some o := PySem.W.of_hideAll (trk h H) e
 refine ⟨e',?_⟩
 cases q:H b with
 | none => rfl
 | some x =>
   have hm:b ∈ trk h H := List.mem_filter.mpr ⟨List.mem_range.mpr (Heap.lt_size e'),by simp [q]⟩
   have z:(hidT h H).get? b = none := PySem.W.hideAll_none (trk h H) hm
   rw [z] at e; cases e
end L2
namespace L2
open PySem PySem.Spec PyProof.Rows
structure Mod (K:PySem.W.Frag) (mg:Str -> Option Value) (base:Heap):Prop where
 kin:K.In base
 glob:base.Ns mainGlobals mg
 blt:∃ mb,base.Ns builtinsNs mb /\ ∀ x:Str,x ≠ "__name__" -> mb x = bootBuiltins x
 nolimit:base.NoLimit
structure Cx where
 prog:Program
 w:World
 K:PySem.W.Frag
 mg:Str -> Option Value
 base:Heap
 A:Around
 N:List Str
 s₀:Shared
 H₀:Hp
 env:Env
 outer:List Env
 stack:List Env
 ex:List Addr
 fn:Str -> Bool
 calm:Bool
 pn:List (Addr × Obj)
 xe:Value -> Shared -> Prop
def frs (l:List Env):List Addr := l.filterMap (·.frame)
abbrev Cx.fs (X:Cx):List Addr := frs X.outer
def Vis (sc:Scope) (x:Str):Prop := sc.names.lookup x = some .local \/ sc.names.lookup x = some .cell \/ sc.names.lookup x = some .free
def Loc (sc:Scope) (x:Str):Prop := sc.names.lookup x = some .local \/ sc.names.lookup x = some .cell
def Look (env:Env) (h:Heap) (m:Str -> Option Value) (x:Str) (u:Value):Prop :=
 (env.kindOf x = some .local /\ m x = some u) \/ ((env.kindOf x = some .cell \/ env.kindOf x = some .free) /\ ∃ c,env.cells.lookup x = some c /\ h.IsCell c (some u))
structure Cx.Ok (X:Cx):Prop where
 mod:Mod X.K X.mg X.base
 kind:X.env.scope.kind = .function
 glob:X.env.globals = mainGlobals
 blt:X.env.builtins = builtinsNs
 above:X.s₀.heap.objs.size <= X.env.locals
 inj:∀ x y c,X.env.cells.lookup x = some c -> X.env.cells.lookup y = some c -> x = y
 has:∀ x,(X.env.kindOf x = some .cell \/ X.env.kindOf x = some .free) -> ∃ c,X.env.cells.lookup x = some c
 cab:∀ x c,X.fn x = true -> X.env.cells.lookup x = some c -> X.s₀.heap.objs.size <= c
 hd:X.calm = true -> X.A.handled = none
 frames:X.A.frames = some X.stack
 stk:X.stack = X.outer \/ (X.stack = X.env :: X.outer /\ X.env.frame = some X.env.locals)
 exf:∀ b ∈ X.ex,b ≠ X.env.locals /\ ∀ x c,X.env.cells.lookup x = some c -> c ≠ b
 bs:∀ b o,X.base.get? b = some o -> X.s₀.heap.get? b = some o /\ X.H₀ b = none
 bsz:X.base.objs.size <= X.s₀.heap.objs.size
 noex:∀ b o,X.base.get? b = some o -> b ∉ X.ex
 exfs:∀ b ∈ X.ex,b ∉ X.fs
 funs:X.s₀.heap.FunFrames X.base X.outer
 frf:∀ b ∈ X.fs,X.H₀ b = none
structure Inv (X:Cx) (pins:List (Addr × Obj)) (σ:List (Option V)) (H:Hp) (s:Shared):Prop where
 ok:X.Ok
 os:s.os = X.s₀.os
 bare:AllBare s.gens
 base:Un X.fs X.ex X.H₀ H X.s₀.heap s.heap
 loc:∃ m,s.heap.Ns X.env.locals m /\ ∀ (i:Nat) (x:Str) (v:V),X.N[i]? = some x -> σ[i]? = some (some v) -> Vis X.env.scope x -> ∃ u,RelV v u /\ Look X.env s.heap m x u
 cell:∀ x c,X.env.cells.lookup x = some c -> ∃ v,s.heap.IsCell c v
 free:H X.env.locals = none
 freeC:∀ x c,X.env.cells.lookup x = some c -> H c = none
 pin:∀ p ∈ X.pn ++ pins,s.heap.get? p.1 = some p.2 /\ H p.1 = none /\ p.1 ≠ X.env.locals /\ p.1 ∉ X.fs /\ ∀ v,p.2.data ≠ .cell v
 hok:HOk X.prog X.w H s.heap
 len:σ.length = X.N.length
section
variable {X:Cx} {pins:List (Addr × Obj)} {σ:List (Option V)} {H H':Hp} {s:Shared} {h':Heap}
theorem Cx.Ok.nofr (ok:X.Ok) {b:Addr} {o:Obj} (e:X.base.get? b = some o):b ∉ X.fs := fun hb => by
 have := (ok.funs.mem hb).1
 rw [e] at this; cases this
theorem Inv.bs (I:Inv X pins σ H s):∀ b o,X.base.get? b = some o -> s.heap.get? b = some o /\ H b = none := fun b o e =>
 ⟨I.base.keep b o (I.ok.bs b o e).1 (I.ok.bs b o e).2 (I.ok.nofr e) (I.ok.noex b o e),I.base.free b o (I.ok.bs b o e).1 (I.ok.bs b o e).2 (I.ok.noex b o e)⟩
theorem Inv.bk (I:Inv X pins σ H s):∀ b o,X.base.get? b = some o -> s.heap.get? b = some o := fun b o e => (I.bs b o e).1
theorem Inv.mod (I:Inv X pins σ H s):Mod X.K X.mg X.base := I.ok.mod
theorem Inv.kIn (I:Inv X pins σ H s):X.K.In s.heap := I.ok.mod.kin.keeps I.bk
theorem Inv.lt (I:Inv X pins σ H s):X.env.locals < s.heap.objs.size := let ⟨_,hn,_⟩ := I.loc; hn.lt
theorem Inv.sz (I:Inv X pins σ H s):X.s₀.heap.objs.size <= s.heap.objs.size := Nat.le_trans I.ok.above (Nat.le_of_lt I.lt)
theorem Inv.nofs (I:Inv X pins σ H s) {a:Addr} (h:s.heap.objs.size <= a):a ∉ X.fs := fun hb => by
 obtain ⟨_,o,ho,_⟩ := I.ok.funs.mem hb
 exact absurd (Nat.lt_of_lt_of_le (Heap.lt_size ho) (Nat.le_trans I.sz h)) (Nat.lt_irrefl _)
theorem Inv.cne (I:Inv X pins σ H s):∀ x c,X.env.cells.lookup x = some c -> c ≠ X.env.locals := fun x c e z => by
 obtain ⟨v,o,ho,hd⟩ := I.cell x c e
 obtain ⟨m,⟨o',es,ep,ho',hd',_⟩,_⟩ := I.loc
 rw [z,ho'] at ho; cases ho; rw [hd'] at hd; cases hd
theorem Inv.funs (I:Inv X pins σ H s):s.heap.FunFrames X.base X.outer := by
 have all:∀ (l:List Env),(∀ b ∈ frs l,b ∈ X.fs) -> X.s₀.heap.FunFrames X.base l -> s.heap.FunFrames X.base l := by
   intro l
   induction l with
   | nil => intro _ _; trivial
   | cons env r ih =>
     intro hs hl
     obtain ⟨hk,⟨L,o,hf,hn,ho,hd⟩,hr⟩ := hl
     have hL:L ∈ X.fs := hs L (by unfold frs; rw [List.filterMap_cons,hf]; exact List.mem_cons_self)
     obtain ⟨sl,e⟩ := I.base.slot L o ho (I.ok.frf L hL) hL fun z => I.ok.exfs L z hL
     exact ⟨hk,⟨L,_,hf,hn,e,hd⟩,ih (fun b hb => hs b (by unfold frs; rw [List.filterMap_cons,hf]; exact List.mem_cons_of_mem _ hb)) hr⟩
 exact all X.outer (fun _ hb => hb) I.ok.funs
theorem Inv.stack (I:Inv X pins σ H s):s.heap.FunFrames X.base X.stack := by
 rcases I.ok.stk with e | ⟨e,hf⟩
 · rw [e]; exact I.funs
 · rw [e]
   obtain ⟨m,hn,_⟩ := I.loc
   refine .cons (by rw [I.ok.kind]; decide) hf hn ?_ I.funs
   exact Heap.get?_none_of_le (Nat.le_trans I.ok.bsz I.ok.above)
theorem Inv.stkSub (I:Inv X pins σ H s):∀ b ∈ frs X.stack,b ∈ X.env.locals :: X.fs := fun b hb => by
 rcases I.ok.stk with e | ⟨e,hf⟩
 · rw [e] at hb; exact List.mem_cons_of_mem _ hb
 · rw [e] at hb
   unfold frs at hb
   rw [List.filterMap_cons,hf] at hb
   exact hb
theorem Inv.stkFree (I:Inv X pins σ H s):∀ b ∈ frs X.stack,H b = none := fun b hb => by
 rcases List.mem_cons.mp (I.stkSub b hb) with e | hb
 · rw [e]; exact I.free
 · obtain ⟨_,o,ho,_⟩ := I.ok.funs.mem hb
   exact I.base.free b o ho (I.ok.frf b hb) fun z => I.ok.exfs b z hb
theorem Inv.step {g':Array GenState} {t':Nat} {d':Drawn} {ch:List Addr} (I:Inv X pins σ H s)
   (hch:∀ b ∈ ch,(b ∈ X.ex \/ X.s₀.heap.objs.size <= b) /\ b ≠ X.env.locals /\ (∀ x c,X.env.cells.lookup x = some c -> c ≠ b) /\ ∀ p ∈ X.pn ++ pins,p.1 ≠ b)
   (keep:∀ b o,b ≠ X.env.locals -> b ∉ X.fs -> b ∉ ch -> s.heap.get? b = some o -> H b = none -> h'.get? b = some o)
   (slot:∀ b o,b ≠ X.env.locals -> b ∈ X.fs -> b ∉ ch -> s.heap.get? b = some o -> H b = none -> ∃ sl,h'.get? b = some { o with slots := sl }) (free:∀ b o,b ∉ ch -> s.heap.get? b = some o -> H b = none -> H' b = none)
   (there:∀ b o,b ∉ ch -> s.heap.get? b = some o -> ∃ o',h'.get? b = some o')
   (tups:∀ b xs,H b = some (.tup xs) -> H' b = some (.tup xs)) (frzs:∀ b o u,H b = some (.frz o u) -> H' b = some (.frz o u)) (tbls:∀ b ps,H b = some (.tbl ps) -> ∃ more,H' b = some (.tbl (ps ++ more)))
   (ns:∀ m,s.heap.Ns X.env.locals m -> h'.Ns X.env.locals m) (hok:HOk X.prog X.w H' h') (hg:AllBare g') :
   Inv X pins σ H' { s with heap := h',gens := g',drawn := d',toks := t' } := by
 have neL:∀ b o,X.s₀.heap.get? b = some o -> b ≠ X.env.locals := fun b o e => Nat.ne_of_lt (Nat.lt_of_lt_of_le (Heap.lt_size e) I.ok.above)
 have neC:∀ b o,X.s₀.heap.get? b = some o -> b ∉ X.ex -> b ∉ ch := fun b o e hx hb => by
   rcases (hch b hb).1 with z | z
   · exact hx z
   · exact absurd (Nat.lt_of_lt_of_le (Heap.lt_size e) z) (Nat.lt_irrefl _)
 have cellK:∀ x c,X.env.cells.lookup x = some c -> ∀ v,s.heap.IsCell c v -> h'.IsCell c v := fun x c e v ⟨o,ho,hd⟩ => by
   have nch:c ∉ ch := fun z => (hch c z).2.2.1 x c e rfl
   by_cases hc:c ∈ X.fs
   · obtain ⟨sl,q⟩ := slot c o (I.cne x c e) hc nch ho (I.freeC x c e)
     exact ⟨_,q,hd⟩
   · exact ⟨o,keep c o (I.cne x c e) hc nch ho (I.freeC x c e),hd⟩
 refine ⟨I.ok,I.os,hg,⟨fun b o e n hb hx => ?_,fun b o e n hb hx => ?_,fun b o e n hx => ?_,fun b o e hx => ?_,fun b xs e => tups b xs (I.base.tups b xs e),fun b o xs e => frzs b o xs (I.base.frzs b o xs e),fun b ps e => ?_⟩,?_,fun x c e => ?_,?_,fun x c e => ?_,fun p hp => ?_,hok,I.len⟩
 · exact keep b o (neL b o e) hb (neC b o e hx) (I.base.keep b o e n hb hx) (I.base.free b o e n hx)
 · obtain ⟨sl,e1⟩ := I.base.slot b o e n hb hx
   obtain ⟨sl',e2⟩ := slot b _ (neL b o e) hb (neC b o e hx) e1 (I.base.free b o e n hx)
   exact ⟨sl',e2⟩
 · obtain ⟨o',e1⟩ := I.base.there b o e hx
   exact free b o' (neC b o e hx) e1 (I.base.free b o e n hx)
 · obtain ⟨o',e1⟩ := I.base.there b o e hx
   exact there b o' (neC b o e hx) e1
 · obtain ⟨m1,e1⟩ := I.base.tbls b ps e
   obtain ⟨m2,e2⟩ := tbls b _ e1
   exact ⟨m1 ++ m2,by rw [e2,Array.append_assoc]⟩
 · obtain ⟨m,hn,hl⟩ := I.loc
   refine ⟨m,ns m hn,fun i x v e1 e2 e3 => ?_⟩
   obtain ⟨u,r,l⟩ := hl i x v e1 e2 e3
   refine ⟨u,r,?_⟩
   rcases l with l | ⟨k,c,e,z⟩
   · exact .inl l
   · exact .inr ⟨k,c,e,cellK x c e _ z⟩
 · obtain ⟨v,z⟩ := I.cell x c e
   exact ⟨v,cellK x c e v z⟩
 · obtain ⟨m,⟨o,_,_,ho,_⟩,_⟩ := I.loc
   exact free _ o (fun z => (hch _ z).2.1 rfl) ho I.free
 · obtain ⟨v,o,ho,hd⟩ := I.cell x c e
   exact free c o (fun z => (hch c z).2.2.1 x c e rfl) ho (I.freeC x c e)
 · obtain ⟨e,n,ne,nf,d⟩ := I.pin p hp
   have nch:p.1 ∉ ch := fun z => (hch p.1 z).2.2.2 p hp rfl
   exact ⟨keep p.1 p.2 ne nf nch e n,free p.1 p.2 nch e n,ne,nf,d⟩
theorem Inv.un {t':Nat} (I:Inv X pins σ H s) (u:Un X.fs [] H H' s.heap h') (hok:HOk X.prog X.w H' h'):Inv X pins σ H' { s with heap := h',toks := t' } := by
 obtain ⟨m,⟨o,es,ep,ho,r⟩,_⟩ := id I.loc
 obtain ⟨sl,hL⟩ := u.any ho I.free (by simp)
 exact I.step (g' := s.gens) (d' := s.drawn) (ch := []) (fun _ z => nomatch z) (fun b o _ hb _ e n => u.keep b o e n hb (by simp)) (fun b o _ hb _ e n => u.slot b o e n hb (by simp)) (fun b o _ e n => u.free b o e n (by simp)) (fun b o _ e => u.there b o e (by simp)) u.tups u.frzs u.tbls (fun m' hm => by
   obtain ⟨o',es',ep',ho',r'⟩ := hm
   rw [ho] at ho'; cases ho'
   exact ⟨_,es',ep',hL,r'⟩) hok I.bare
theorem Inv.call {g':Array GenState} {t':Nat} {d':Drawn} {ch:List Addr} (I:Inv X pins σ H s) (u:Un (frs X.stack) ch H H' s.heap h') (hok:HOk X.prog X.w H' h') (hg:AllBare g')
   (hch:∀ b ∈ ch,(b ∈ X.ex \/ X.s₀.heap.objs.size <= b) /\ b ≠ X.env.locals /\ (∀ x c,X.env.cells.lookup x = some c -> c ≠ b) /\ ∀ p ∈ X.pn ++ pins,p.1 ≠ b) :
   Inv X pins σ H' { s with heap := h',gens := g',drawn := d',toks := t' } := by
 obtain ⟨m,⟨o,es,ep,ho,r⟩,_⟩ := id I.loc
 obtain ⟨sl,hL⟩ := u.any ho I.free fun z => (hch _ z).2.1 rfl
 exact I.step (ch := ch) hch (fun b o hL hb hc e n => u.keep b o e n (fun z => (List.mem_cons.mp (I.stkSub b z)).elim hL hb) hc) (fun b o _ _ hc e n => u.any e n hc) (fun b o hc e n => u.free b o e n hc) (fun b o hc e => u.there b o e hc) u.tups u.frzs u.tbls (fun m' hm => by
   obtain ⟨o',es',ep',ho',r'⟩ := hm
   rw [ho] at ho'; cases ho'
   exact ⟨_,es',ep',hL,r'⟩) hok hg
theorem Inv.turned {t':Nat} {it:Addr} (I:Inv X pins σ H s) (k:∀ b o,b ≠ it -> s.heap.get? b = some o -> h'.get? b = some o) (hn:H it = none) (hL:it ≠ X.env.locals)
   (h1:it ∈ X.ex \/ X.s₀.heap.objs.size <= it) (h2:∀ x c,X.env.cells.lookup x = some c -> c ≠ it) (h3:∀ p ∈ X.pn ++ pins,p.1 ≠ it):Inv X pins σ H { s with heap := h',toks := t' } := by
 have nit:∀ b u,H b = some u -> b ≠ it := fun b u e z => by rw [z,hn] at e; cases e
 refine I.step (g' := s.gens) (d' := s.drawn) (ch := [it]) (fun b hb => ?_) (fun b o _ _ hc e _ => k b o (fun z => hc (by simp [z])) e) (fun b o _ _ hc e _ => ⟨o.slots,k b o (fun z => hc (by simp [z])) e⟩) (fun _ _ _ _ n => n)
   (fun b o hc e => ⟨o,k b o (fun z => hc (by simp [z])) e⟩) (fun _ _ e => e) (fun _ _ _ e => e) (fun b ps e => ⟨#[],by rw [e]; simp⟩) (fun m hm => ?_) (fun b u e => ?_) I.bare
 · have e:b = it := by simpa using hb
   subst e
   exact ⟨h1,hL,h2,h3⟩
 · obtain ⟨o,es,ep,ho,r⟩ := hm
   exact ⟨o,es,ep,k _ o (Ne.symm hL) ho,r⟩
 · refine (I.hok b u e).stay (fun c v hc q => k c v ?_ q) (fun _ q => q) fun _ _ q => q
   rcases hc with z | z
   · rw [z]; exact nit b u e
   · exact nit c _ z
theorem Inv.tok (I:Inv X pins σ H s) (t:Nat):Inv X pins σ H { s with toks := t } := I.un (h' := s.heap) (t' := t) Un.refl I.hok
theorem Inv.kept {t':Nat} (I:Inv X pins σ H s) (k:∀ b u,s.heap.get? b = some u -> h'.get? b = some u):Inv X pins σ H { s with heap := h',toks := t' } := I.un (Un.kept k) (I.hok.kept k)
theorem Inv.laid {a:Addr} {o:HO} {t':Nat} (I:Inv X pins σ H s) (k:∀ b u,s.heap.get? b = some u -> h'.get? b = some u) (hp:s.heap.objs.size <= a) (new:yj X.prog X.w (upd H a o) h' a o) :
   Inv X pins σ (upd H a o) { s with heap := h',toks := t' } := I.un (Un.laid k hp (I.hok.fresh hp)) (I.hok.laid k hp new)
theorem Inv.write {x e:Addr} {o:HO} {t':Nat} (I:Inv X pins σ H s) (mu:Mut (H x)) (he:e = x \/ H e = some (.own x)) (k:∀ b u,b ≠ e -> s.heap.get? b = some u -> h'.get? b = some u) (heo:∃ u,h'.get? e = some u)
   (new:yj X.prog X.w (upd H x o) h' x o):Inv X pins σ (upd H x o) { s with heap := h',toks := t' } := I.un (Un.write mu he k heo) (I.hok.write mu he k heo new)
theorem Inv.pins_of {pins':List (Addr × Obj)} (I:Inv X pins σ H s) (h:∀ p ∈ pins',s.heap.get? p.1 = some p.2 /\ H p.1 = none /\ p.1 ≠ X.env.locals /\ p.1 ∉ X.fs /\ ∀ v,p.2.data ≠ .cell v):Inv X pins' σ H s :=
 ⟨I.ok,I.os,I.bare,I.base,I.loc,I.cell,I.free,I.freeC,fun p hp => (List.mem_append.mp hp).elim (fun z => I.pin p (List.mem_append_left _ z)) (h p),I.hok,I.len⟩
theorem Yg {N:List Str} (hN:N.Nodup) {i j:Nat} {x:Str} (a:N[i]? = some x) (b:N[j]? = some x):i = j := by
 obtain ⟨h1,e1⟩ := List.getElem?_eq_some_iff.mp a
 obtain ⟨h2,e2⟩ := List.getElem?_eq_some_iff.mp b
 exact (List.getElem_inj hN).mp (e1.trans e2.symm)
theorem Wq {M:Model} {A:Around} {E:Value -> Shared -> Prop} {i:Nat} {x:Str} {v:V} {u:Value} {Q:Unit -> Shared -> Prop} (I:Inv X pins σ H s) (hN:X.N.Nodup) (hi:X.N[i]? = some x) (hx:Loc X.env.scope x) (r:RelV v u)
   (h:∀ s',Inv X pins (σ.set i (some v)) H s' -> (∃ a,Heap.SameBut a s.heap s'.heap /\ (a = X.env.locals \/ X.env.cells.lookup x = some a)) -> Q () s') (hf:X.fn x = true \/ X.env.scope.names.lookup x = some .local := by first | exact .inl rfl | exact .inr rfl | assumption):wpAny M A (storeName X.env x u) Q E s := by
 obtain ⟨m,hn,hl⟩ := id I.loc
 have hcls:(X.env.scope.kind == .class || (X.env.scope.kind == .module && X.env.locals != X.env.globals)) = false := by rw [I.ok.kind]; rfl
 have hiσ:i < σ.length := by rw [I.len]; exact (List.getElem?_eq_some_iff.mp hi).1
 have cne := I.cne
 have tracked:∀ {a:Addr} {h':Heap},(∃ o,s.heap.get? a = some o /\ H a = none) -> Heap.SameBut a s.heap h' -> HOk X.prog X.w H h' := fun {a h'} ha hs b ob e => by
   obtain ⟨_,_,hfree⟩ := ha
   refine (I.hok b ob e).stay (fun c w' hc q => (hs.2 c ?_).trans q) (fun _ q => q) fun _ _ q => q
   rintro rfl
   rcases hc with rfl | hc
   · rw [hfree] at e; cases e
   · rw [hfree] at hc; cases hc
 rcases hx with hk | hk
 · refine wpAny_storeName_local hk hn (fun h' hn' hs => ?_) hcls
   obtain ⟨oL,_,_,hoL,_⟩ := id hn
   refine h _ ⟨I.ok,I.os,I.bare,⟨fun b o e n hb hx => ?_,fun b o e n hb hx => ?_,I.base.free,fun b o e hx => ?_,I.base.tups,I.base.frzs,I.base.tbls⟩,⟨_,hn',fun j y v' e1 e2 e3 => ?_⟩,fun y c e => ?_,I.free,I.freeC,fun p hp => ?_,tracked ⟨oL,hoL,I.free⟩ hs,by simpa using I.len⟩ ⟨_,hs,.inl rfl⟩
   · exact (hs.2 b (Nat.ne_of_lt (Nat.lt_of_lt_of_le (Heap.lt_size e) I.ok.above))).trans (I.base.keep b o e n hb hx)
   · obtain ⟨sl,e1⟩ := I.base.slot b o e n hb hx
     exact ⟨sl,(hs.2 b (Nat.ne_of_lt (Nat.lt_of_lt_of_le (Heap.lt_size e) I.ok.above))).trans e1⟩
   · obtain ⟨o',e1⟩ := I.base.there b o e hx
     exact ⟨o',(hs.2 b (Nat.ne_of_lt (Nat.lt_of_lt_of_le (Heap.lt_size e) I.ok.above))).trans e1⟩
   · by_cases hj:j = i
     · subst hj
       rw [hi] at e1; cases e1
       rw [List.getElem?_set_self hiσ] at e2
       cases e2
       exact ⟨u,r,.inl ⟨hk,by simp⟩⟩
     · rw [List.getElem?_set_ne (Ne.symm hj)] at e2
       obtain ⟨u',r',q⟩ := hl j y v' e1 e2 e3
       refine ⟨u',r',?_⟩
       rcases q with ⟨k,e⟩ | ⟨k,c,e,z⟩
       · refine .inl ⟨k,?_⟩
         have:y ≠ x := fun e => hj (Yg hN e1 (e ▸ hi))
         simp [this,e]
       · exact .inr ⟨k,c,e,z.sameBut hs (cne y c e)⟩
   · obtain ⟨w',z⟩ := I.cell y c e
     exact ⟨w',z.sameBut hs (cne y c e)⟩
   · obtain ⟨e,n,ne,nf,d⟩ := I.pin p hp
     exact ⟨(hs.2 p.1 ne).trans e,n,ne,nf,d⟩
 · have hfn:X.fn x = true := by
     rcases hf with z | z
     · exact z
     · rw [z] at hk; cases hk
   obtain ⟨c,hc⟩ := I.ok.has x (.inl hk)
   obtain ⟨w',z⟩ := I.cell x c hc
   refine wpAny_storeName_cell I.ok.kind hk hc z (fun h' hc' hs => ?_)
   obtain ⟨oc,hoc,hocd⟩ := id z
   refine h { s with heap := h' } ⟨I.ok,I.os,I.bare,⟨fun b o e n hb hx => ?_,fun b o e n hb hx => ?_,I.base.free,fun b o e hx => ?_,I.base.tups,I.base.frzs,I.base.tbls⟩,⟨m,hn.sameBut hs (Ne.symm (cne x c hc)),fun j y v' e1 e2 e3 => ?_⟩,fun y c' e => ?_,I.free,I.freeC,fun p hp => ?_,tracked ⟨oc,hoc,I.freeC x c hc⟩ hs,by simpa using I.len⟩ ⟨c,hs,.inr hc⟩
   · exact (hs.2 b (Nat.ne_of_lt (Nat.lt_of_lt_of_le (Heap.lt_size e) (I.ok.cab x c hfn hc)))).trans (I.base.keep b o e n hb hx)
   · obtain ⟨sl,e1⟩ := I.base.slot b o e n hb hx
     exact ⟨sl,(hs.2 b (Nat.ne_of_lt (Nat.lt_of_lt_of_le (Heap.lt_size e) (I.ok.cab x c hfn hc)))).trans e1⟩
   · obtain ⟨o',e1⟩ := I.base.there b o e hx
     exact ⟨o',(hs.2 b (Nat.ne_of_lt (Nat.lt_of_lt_of_le (Heap.lt_size e) (I.ok.cab x c hfn hc)))).trans e1⟩
   · by_cases hj:j = i
     · subst hj
       rw [hi] at e1; cases e1
       rw [List.getElem?_set_self hiσ] at e2
       cases e2
       exact ⟨u,r,.inr ⟨.inl hk,c,hc,hc'⟩⟩
     · rw [List.getElem?_set_ne (Ne.symm hj)] at e2
       obtain ⟨u',r',q⟩ := hl j y v' e1 e2 e3
       refine ⟨u',r',?_⟩
       rcases q with q | ⟨k,c',e,z'⟩
       · exact .inl q
       · refine .inr ⟨k,c',e,z'.sameBut hs ?_⟩
         rintro rfl
         exact hj (Yg hN e1 (I.ok.inj _ _ _ e hc ▸ hi))
   · by_cases hcc:c' = c
     · subst hcc; exact ⟨_,hc'⟩
     · obtain ⟨w2,z2⟩ := I.cell y c' e
       exact ⟨w2,z2.sameBut hs hcc⟩
   · obtain ⟨e,n,ne,nf,d⟩ := I.pin p hp
     refine ⟨(hs.2 p.1 ?_).trans e,n,ne,nf,d⟩
     intro q
     rw [q,hoc] at e
     have q':oc = p.2 := Option.some.inj e
     exact d w' (by rw [<- q']; exact hocd)
theorem jj {M:Model} {A:Around} {E:Value -> Shared -> Prop} {i:Nat} {x:Str} {v:V} {u:Value} {Q:Unit -> Shared -> Prop} (I:Inv X pins σ H s) (hN:X.N.Nodup) (hi:X.N[i]? = some x) (hx:Loc X.env.scope x) (r:RelV v u)
   (h:∀ s',Inv X pins (σ.set i (some v)) H s' -> Q () s') (hf:X.fn x = true \/ X.env.scope.names.lookup x = some .local := by first | exact .inl rfl | exact .inr rfl | assumption):wpAny M A (storeName X.env x u) Q E s :=
 Wq I hN hi hx r (fun s' I' _ => h s' I') hf
theorem Inv.call' {s':Shared} {ch:List Addr} (I:Inv X pins σ H s) (ho:s'.os = s.os) (u:Un (frs X.stack) ch H H' s.heap s'.heap) (hok:HOk X.prog X.w H' s'.heap) (hg:AllBare s'.gens)
   (hch:∀ b ∈ ch,(b ∈ X.ex \/ X.s₀.heap.objs.size <= b) /\ b ≠ X.env.locals /\ (∀ x c,X.env.cells.lookup x = some c -> c ≠ b) /\ ∀ p ∈ X.pn ++ pins,p.1 ≠ b):Inv X pins σ H' s' := by
 obtain ⟨h',g',d',t',o'⟩ := s'
 have e:o' = s.os := ho
 subst e
 exact I.call (g' := g') (t' := t') (d' := d') u hok hg hch
end
abbrev XK := Value -> Option Addr -> Hp -> Prop
abbrev St := List (Option V)
abbrev VK := V -> Hp -> Prop
abbrev TE := St -> Hp -> VK -> Prop
abbrev TT := St -> Hp -> (Bool -> Hp -> Prop) -> Prop
abbrev TA := St -> Hp -> (List V -> Hp -> Prop) -> Prop
structure Ends where
 nx:St -> Hp -> Prop
 rt:VK
 bk:St -> Hp -> Prop := fun _ _ => False
 ct:St -> Hp -> Prop := fun _ _ => False
abbrev TS := Ends -> St -> Hp -> Prop
def EP (X:Cx) (pins:List (Addr × Obj)) (σ:St) (Q:VK) (u:Value) (s':Shared):Prop := ∃ v H',Inv X pins σ H' s' /\ RelV v u /\ Q v H'
def TP (X:Cx) (pins:List (Addr × Obj)) (σ:St) (Q:Bool -> Hp -> Prop) (b:Bool) (s':Shared):Prop := ∃ H',Inv X pins σ H' s' /\ Q b H'
def AP (X:Cx) (pins:List (Addr × Obj)) (σ:St) (Q:List V -> Hp -> Prop) (us:List Value) (s':Shared):Prop := ∃ vs H',Inv X pins σ H' s' /\ Vals vs us /\ Q vs H'
def SP (X:Cx) (pins:List (Addr × Obj)) (D:Ends) (f:Flow) (s':Shared):Prop :=
 match f with
 | .next => ∃ σ' H',Inv X pins σ' H' s' /\ D.nx σ' H'
 | .brk => ∃ σ' H',Inv X pins σ' H' s' /\ D.bk σ' H'
 | .cont => ∃ σ' H',Inv X pins σ' H' s' /\ D.ct σ' H'
 | .ret u => ∃ v σ' H',Inv X pins σ' H' s' /\ RelV v u /\ D.rt v H'
def PE (X:Cx) (e:Expr) (t:TE):Prop :=
 ∀ (pins:List (Addr × Obj)) (s:Shared) (σ:St) (H:Hp) (Q:VK),Inv X pins σ H s -> t σ H Q -> wpAny (model X.prog X.w) X.A (eval e X.env) (EP X pins σ Q) X.xe s
def PT (X:Cx) (e:Expr) (t:TT):Prop :=
 ∀ (pins:List (Addr × Obj)) (s:Shared) (σ:St) (H:Hp) (Q:Bool -> Hp -> Prop),Inv X pins σ H s -> t σ H Q -> wpAny (model X.prog X.w) X.A (isTrue e X.env (eval e X.env)) (TP X pins σ Q) X.xe s
def PW (X:Cx) (e:Expr) (t:TT):Prop :=
 ∀ (whole:Sem Value) (pins:List (Addr × Obj)) (s:Shared) (σ:St) (H:Hp) (Q:Bool -> Hp -> Prop),Inv X pins σ H s -> t σ H Q -> wpAny (model X.prog X.w) X.A (isTrue e X.env whole) (TP X pins σ Q) X.xe s
theorem PW.pt {X:Cx} {e:Expr} {t:TT} (h:PW X e t):PT X e t := h _
def PA (X:Cx) (es:List Expr) (t:TA):Prop :=
 ∀ (pos:Pos) (pins:List (Addr × Obj)) (s:Shared) (σ:St) (H:Hp) (Q:List V -> Hp -> Prop),Inv X pins σ H s -> t σ H Q -> wpAny (model X.prog X.w) X.A (spliced (backTo pos (starEach es X.env))) (AP X pins σ Q) X.xe s
def PS (X:Cx) (st:Stmt) (t:TS):Prop :=
 ∀ (pins:List (Addr × Obj)) (s:Shared) (σ:St) (H:Hp) (D:Ends),Inv X pins σ H s -> t D σ H -> wpAny (model X.prog X.w) X.A (exec st X.env) (SP X pins D) X.xe s
def PSs (X:Cx) (st:List Stmt) (t:TS):Prop :=
 ∀ (pins:List (Addr × Obj)) (s:Shared) (σ:St) (H:Hp) (D:Ends),Inv X pins σ H s -> t D σ H -> wpAny (model X.prog X.w) X.A (execs st X.env) (SP X pins D) X.xe s
theorem thn {α:Type} {t:Sem α} {Q Q':α -> Shared -> Prop} {M:Model} {A:Around} {E:Value -> Shared -> Prop} {s:Shared} (h:wpAny M A t Q E s) (hQ:∀ a s,Q a s -> Q' a s):wpAny M A t Q' E s := wpAny_mono h hQ fun _ _ x => x
end L2
namespace L2
open PySem PySem.Spec PyProof.Rows
section
variable {X:Cx}
def tVar (i:Nat):TE := fun σ H Q => ∃ v,σ[i]? = some (some v) /\ Q v H
def tC (v:V):TE := fun _ H Q => Q v H
theorem zaX {i:Nat} {x:Str} {pos:Pos} (hN:X.N[i]? = some x) (hv:Vis X.env.scope x) (hd:(x == ("__debug__" : Str)) = false := by decide) (hcd:(x == ("__classdict__" : Str)) = false := by decide):PE X (.Name x pos) (tVar i) := by
 intro pins s σ H Q I h
 obtain ⟨v,e,h⟩ := h
 obtain ⟨m,hn,hl⟩ := I.loc
 obtain ⟨u,r,l⟩ := hl i x v hN e hv
 have fin:EP X pins σ Q u s := ⟨v,H,I,r,h⟩
 rcases l with ⟨hk,hm⟩ | ⟨hk,c,hc,hcell⟩
 · exact wpAny_Name (wpAny_loadName_local I.ok.kind hk hn hm fin) hd
 · rcases hk with hk | hk
   · exact wpAny_Name (wpAny_loadName_cell I.ok.kind hk hc hcell fin) hd
   · exact wpAny_Name (wpAny_loadName_free I.ok.kind hk hc hcell fin hcd) hd
theorem zh {i j pos}:PE X (.Constant (.int i) j pos) (tC (.int i)) := fun _ _ _ H _ I h => wpAny_Constant_int ⟨.int i,H,I.tok _,⟨_,rfl⟩,h⟩
theorem wO {b j pos}:PE X (.Constant (.bool b) j pos) (tC (.bl b)) := fun _ _ _ H _ I h => Constant_bool ⟨.bl b,H,I,rfl,h⟩
theorem y0 {j pos}:PE X (.Constant .none j pos) (tC .non) := fun _ _ _ H _ I h => Constant_none ⟨.non,H,I,rfl,h⟩
theorem yd {x j pos}:PE X (.Constant (.str x) j pos) (tC (.str x)) := fun _ _ _ H _ I h => Calls.Constant_str ⟨.str x,H,I.tok _,⟨_,rfl⟩,h⟩
def Gl (X:Cx) (x:Str):Prop := X.env.kindOf x = some .globalImplicit
theorem j3 {E:Value -> Shared -> Prop} {pins:List (Addr × Obj)} {s:Shared} {σ:St} {H:Hp} {x:Str} {u:Value} {pos:Pos} {Q:Value -> Shared -> Prop} (I:Inv X pins σ H s) (hg:Gl X x) (hm:X.mg x = some u) (h:Q u s)
   (hd:(x == ("__debug__" : Str)) = false := by decide):wpAny (model X.prog X.w) X.A (eval (.Name x pos) X.env) Q E s :=
 Calls.Name_function_global I.ok.kind hg (Calls.loadGlobal_global (by rw [I.ok.glob]; exact I.mod.glob.keeps I.bk) hm h) hd
theorem yQ {E:Value -> Shared -> Prop} {pins:List (Addr × Obj)} {s:Shared} {σ:St} {H:Hp} {x:Str} {u:Value} {pos:Pos} {Q:Value -> Shared -> Prop} (I:Inv X pins σ H s) (hg:Gl X x) (hm:X.mg x = none) (hv:bootBuiltins x = some u) (h:Q u s)
   (hn:x ≠ "__name__" := by decide) (hd:(x == ("__debug__" : Str)) = false := by decide):wpAny (model X.prog X.w) X.A (eval (.Name x pos) X.env) Q E s := by
 obtain ⟨mb,h1,h2⟩ := I.mod.blt
 exact Calls.Name_function_global I.ok.kind hg (Calls.loadGlobal_builtin (by rw [I.ok.glob]; exact I.mod.glob.keeps I.bk) hm (by rw [I.ok.blt]; exact h1.keeps I.bk) ((h2 x hn).trans hv) h) hd
theorem j4 {x:Str} {v:V} {u:Value} {pos:Pos} (hg:Gl X x) (hm:X.mg x = some u) (r:RelV v u) (hd:(x == ("__debug__" : Str)) = false := by decide):PE X (.Name x pos) (tC v) :=
 fun _ _ _ H _ I h => j3 I hg hm ⟨v,H,I,r,h⟩ hd
theorem JP {x:Str} {v:V} {u:Value} {pos:Pos} (hg:Gl X x) (hm:X.mg x = none) (hv:bootBuiltins x = some u) (r:RelV v u) (hn:x ≠ "__name__" := by decide) (hd:(x == ("__debug__" : Str)) = false := by decide):PE X (.Name x pos) (tC v) :=
 fun _ _ _ H _ I h => yQ I hg hm hv ⟨v,H,I,r,h⟩ hn hd
variable {a b:Expr} {ta tb:TE} {pos:Pos}
theorem nobehind (b:Expr) {op:CmpOp} (h:op ≠ .In) (h2:op ≠ .NotIn):behindInMarks op b = false := by
 have e1:(op == CmpOp.In) = false := by cases op <;> first | rfl | exact absurd rfl h
 have e2:(op == CmpOp.NotIn) = false := by cases op <;> first | rfl | exact absurd rfl h2
 cases b <;> simp [behindInMarks,e1,e2]
def tB (t:TE):TT := fun σ H Q => t σ H fun x H1 => ∃ c,x = .bl c /\ Q c H1
theorem yl {e:Expr} {t:TE} (h:PE X e t) (he:∀ whole,isTrue e X.env whole = (do let v <- whole; standAt e.pos; holding [v] (truthy v)) := by intro _; rfl):PT X e (tB t) := by
 intro pins s σ H Q I hw
 refine isTrue_plain (thn (h pins s σ H _ I hw) fun v s1 ⟨x,H1,I1,r1,q1⟩ => ?_) (he _)
 obtain ⟨d,rfl,q⟩ := q1
 cases r1
 exact wpAny_truthy_bool ⟨H1,I1,q⟩
variable {tA tB':TT} {rest:List Expr}
def tAnd (t u:TT):TT := fun σ H Q => t σ H fun c H1 => if c = true then u σ H1 Q else Q false H1
def tOr (t u:TT):TT := fun σ H Q => t σ H fun c H1 => if c = true then Q true H1 else u σ H1 Q
def tNot (t:TT):TT := fun σ H Q => t σ H fun c H1 => Q (!c) H1
theorem wk (ha:PT X a tA):PW X (.BoolOp .And [a] pos) tA := by
 intro wh pins s σ H Q I h
 refine isTrue_and (thn (ha pins s σ H Q I h) fun c s1 e => ?_)
 cases c with
 | true => exact isTrue_and_nil e
 | false => exact e
theorem yR (ha:PT X a tA):PW X (.BoolOp .Or [a] pos) tA := by
 intro wh pins s σ H Q I h
 refine isTrue_or (thn (ha pins s σ H Q I h) fun c s1 e => ?_)
 cases c with
 | false => exact isTrue_or_nil e
 | true => exact e
theorem wm (ha:PT X a tA) (hb:PW X (.BoolOp .And (b :: rest) pos) tB'):PW X (.BoolOp .And (a :: b :: rest) pos) (tAnd tA tB') := by
 intro wh pins s σ H Q I h
 refine isTrue_and (thn (ha pins s σ H _ I h) fun c s1 ⟨H1,I1,q1⟩ => ?_)
 cases c with
 | true => exact hb wh pins s1 σ H1 Q I1 q1
 | false => exact ⟨H1,I1,q1⟩
theorem yH (ha:PT X a tA) (hb:PW X (.BoolOp .Or (b :: rest) pos) tB'):PW X (.BoolOp .Or (a :: b :: rest) pos) (tOr tA tB') := by
 intro wh pins s σ H Q I h
 refine isTrue_or (thn (ha pins s σ H _ I h) fun c s1 ⟨H1,I1,q1⟩ => ?_)
 cases c with
 | true => exact ⟨H1,I1,q1⟩
 | false => exact hb wh pins s1 σ H1 Q I1 q1
theorem yB (ha:PT X a tA):PT X (.UnaryOp .Not a pos) (tNot tA) := by
 intro pins s σ H Q I h
 exact isTrue_not (ha pins s σ H (fun c H1 => Q (!c) H1) I h)
def zbO (ta tb:TE):TE := fun σ H Q => ta σ H fun x H1 => ∃ c,x = .bl c /\ if c = true then tb σ H1 Q else Q (.bl false) H1
def zbP (ta:TE):TE := fun σ H Q => ta σ H fun x H1 => ∃ c,x = .bl c /\ Q (.bl (!c)) H1
theorem xW {op} {t:TE} (h:PE X a t):PE X (.BoolOp op [a] pos) t := fun pins s σ H Q I hw => BoolOp_one (h pins s σ H Q I hw)
theorem xt (ha:PE X a ta) (hb:PE X (.BoolOp .And (b :: rest) pos) tb):PE X (.BoolOp .And (a :: b :: rest) pos) (zbO ta tb) := by
 intro pins s σ H Q I h
 refine BoolOp_and (thn (ha pins s σ H _ I h) fun v s1 ⟨x,H1,I1,r1,q1⟩ => ?_)
 obtain ⟨c,rfl,q1⟩ := q1
 cases r1
 refine wpAny_truthy_bool ?_
 cases c with
 | true => exact hb pins s1 σ H1 Q I1 q1
 | false => exact ⟨.bl false,H1,I1,rfl,q1⟩
theorem Wr (ha:PE X a ta):PE X (.UnaryOp .Not a pos) (zbP ta) := by
 intro pins s σ H Q I h
 refine UnaryOp_ (thn (ha pins s σ H _ I h) fun v s1 ⟨x,H1,I1,r1,q1⟩ => ?_)
 obtain ⟨c,rfl,q1⟩ := q1
 cases r1
 exact not_of (wpAny_truthy_bool ⟨.bl (!c),H1,I1,rfl,q1⟩)
end
end L2
namespace L2
open PySem PySem.Spec PyProof.Rows
def SqL (K:PySem.W.Frag) (H:Hp) (a:Addr) (xs:List V):Prop :=
 Rd H a (.lst xs) \/
   ∃ (o:Obj) (its:Array Value) (n:Nat),K.lookup a = some o /\ o.cls = .type "list" /\ o.dict = none /\ o.data = .seq its n /\ its.size <= sizeLine /\ Vals xs its.toList
def SqT (K:PySem.W.Frag) (H:Hp) (a:Addr) (xs:List V):Prop :=
 Rd H a (.tup xs) \/
   ∃ (o:Obj) (its:Array Value) (n:Nat),K.lookup a = some o /\ o.cls = .type "tuple" /\ o.data = .seq its n /\ its.size <= sizeLine /\ Vals xs its.toList
def absV:Value -> Option V
 | .none => some .non
 | .bool b => some (.bl b)
 | .int i _ => some (.int i)
 | .str x _ => some (.str x)
 | .bytes b _ => some (.byt b)
 | .float b _ => some (.flt b)
 | .ref a => some (.ref a)
 | .type n => some (.ty n)
 | _ => none
theorem RelV.abs {x:V} {u:Value} (r:RelV x u):absV u = some x := by
 cases x with
 | non => cases r; rfl
 | bl _ => cases r; rfl
 | int _ => obtain ⟨t,rfl⟩ := r; rfl
 | str _ => obtain ⟨t,rfl⟩ := r; rfl
 | byt _ => obtain ⟨t,rfl⟩ := r; rfl
 | flt _ => obtain ⟨t,rfl⟩ := r; rfl
 | ref _ => cases r; rfl
 | ty _ => cases r; rfl
theorem RelV.inj {x y:V} {u:Value} (r:RelV x u) (q:RelV y u):x = y := Option.some.inj (r.abs.symm.trans q.abs)
theorem Vals.inj:∀ {xs ys:List V} {us:List Value},Vals xs us -> Vals ys us -> xs = ys
 | _,_,_,.nil,.nil => rfl
 | _,_,_,.cons r t,.cons r' t' => by rw [r.inj r',Vals.inj t t']
section
variable {X:Cx} {pins:List (Addr × Obj)} {σ:St} {H:Hp} {s:Shared} {a:Addr} {xs ys:List V}
theorem SqL.of {K:PySem.W.Frag} (h:H a = some (.lst xs)):SqL K H a xs := .inl (.inl h)
theorem SqT.of {K:PySem.W.Frag} (h:H a = some (.tup xs)):SqT K H a xs := .inl (.inl h)
theorem Inv.list (I:Inv X pins σ H s) (h:SqL X.K H a xs):∃ its:List Value,Vals xs its /\ PlainL s.heap a its.toArray /\ xs.length <= sizeLine := by
 rcases h with h | ⟨o,its,n,hk,hc,hd,hs,hz,r⟩
 · obtain ⟨z,its,n,r,e⟩ := h.ok I.hok
   exact ⟨its,r,⟨_,n,e,rfl,rfl,rfl⟩,z⟩
 · refine ⟨its.toList,r,⟨o,n,I.kIn a o hk,hc,hd,by simpa using hs⟩,?_⟩
   have e := r.length
   simp only [Array.length_toList] at e
   omega
theorem Inv.tuple (I:Inv X pins σ H s) (h:SqT X.K H a xs):∃ its:List Value,Vals xs its /\ IsTup s.heap a its.toArray /\ xs.length <= sizeLine := by
 rcases h with h | ⟨o,its,n,hk,hc,hs,hz,r⟩
 · obtain ⟨z,its,r,p⟩ := h.ok I.hok
   exact ⟨its,r,p,z⟩
 · refine ⟨its.toList,r,⟨o,I.kIn a o hk,hc,n,by simpa using hs⟩,?_⟩
   have e := r.length
   simp only [Array.length_toList] at e
   omega
theorem Inv.list_inj (I:Inv X pins σ H s) (h:SqL X.K H a xs) (h':SqL X.K H a ys):xs = ys := by
 obtain ⟨its,r,⟨o,n,e,_,_,d⟩,_⟩ := I.list h
 obtain ⟨its',r',⟨o',n',e',_,_,d'⟩,_⟩ := I.list h'
 rw [e] at e'; cases e'
 rw [d] at d'
 injection d' with d1 _
 have:its = its' := by simpa using congrArg Array.toList d1
 subst this
 exact r.inj r'
theorem Inv.tuple_inj (I:Inv X pins σ H s) (h:SqT X.K H a xs) (h':SqT X.K H a ys):xs = ys := by
 obtain ⟨its,r,⟨o,e,_,n,d⟩,_⟩ := I.tuple h
 obtain ⟨its',r',⟨o',e',_,n',d'⟩,_⟩ := I.tuple h'
 rw [e] at e'; cases e'
 rw [d] at d'
 injection d' with d1 _
 have:its = its' := by simpa using congrArg Array.toList d1
 subst this
 exact r.inj r'
end
abbrev Cx.wish (X:Cx) (E:Value -> Shared -> Prop):Cx := { X with xe := E }
abbrev Cx.nox (X:Cx):Cx := X.wish fun _ _ => False
theorem Cx.Ok.wish {X:Cx} (ok:X.Ok) (E:Value -> Shared -> Prop):(X.wish E).Ok :=
 ⟨ok.mod,ok.kind,ok.glob,ok.blt,ok.above,ok.inj,ok.has,ok.cab,ok.hd,ok.frames,ok.stk,ok.exf,ok.bs,ok.bsz,ok.noex,ok.exfs,ok.funs,ok.frf⟩
theorem Cx.Ok.unwish {X:Cx} {E:Value -> Shared -> Prop} (ok:(X.wish E).Ok):X.Ok :=
 ⟨ok.mod,ok.kind,ok.glob,ok.blt,ok.above,ok.inj,ok.has,ok.cab,ok.hd,ok.frames,ok.stk,ok.exf,ok.bs,ok.bsz,ok.noex,ok.exfs,ok.funs,ok.frf⟩
section
variable {X:Cx} {pins:List (Addr × Obj)} {σ:St} {H:Hp} {s:Shared} {E:Value -> Shared -> Prop}
theorem Inv.wish (I:Inv X pins σ H s) (E:Value -> Shared -> Prop):Inv (X.wish E) pins σ H s := ⟨I.ok.wish E,I.os,I.bare,I.base,I.loc,I.cell,I.free,I.freeC,I.pin,I.hok,I.len⟩
theorem Inv.unwish (I:Inv (X.wish E) pins σ H s):Inv X pins σ H s := ⟨I.ok.unwish,I.os,I.bare,I.base,I.loc,I.cell,I.free,I.freeC,I.pin,I.hok,I.len⟩
theorem SP.unwish {D:Ends} {f:Flow} {s':Shared} (h:SP (X.wish E) pins D f s'):SP X pins D f s' := by
 cases f with
 | next => obtain ⟨σ',H',I,q⟩ := h; exact ⟨σ',H',I.unwish,q⟩
 | brk => obtain ⟨σ',H',I,q⟩ := h; exact ⟨σ',H',I.unwish,q⟩
 | cont => obtain ⟨σ',H',I,q⟩ := h; exact ⟨σ',H',I.unwish,q⟩
 | ret u => obtain ⟨v,σ',H',I,r,q⟩ := h; exact ⟨v,σ',H',I.unwish,r,q⟩
theorem PSs.nox {st:List Stmt} {t:TS} (h:PSs X.nox st t):PSs X st t := fun pins s σ H D I hw =>
 wpAny_mono (h pins s σ H D (I.wish _) hw) (fun _ _ q => q.unwish) fun _ _ z => False.elim z
end
section
variable {X:Cx} {st:Stmt} {rest:List Stmt} {t u:TS} {e:Expr} {te:TE} {pos:Pos}
def Jy:TS := fun D σ H => D.nx σ H
def tSeq (t u:TS):TS := fun D σ H => t { D with nx := u D } σ H
theorem zH:PSs X [] Jy := fun _ _ σ H _ I h => wpAny_execs_nil ⟨σ,H,I,h⟩
theorem zd (h1:PS X st t) (h2:PSs X rest u):PSs X (st :: rest) (tSeq t u) := by
 intro pins s σ H D I h
 refine wpAny_execs_cons (thn (h1 pins s σ H { D with nx := u D } I h) fun f s1 q => ?_)
 cases f with
 | next =>
   obtain ⟨σ',H',I',q⟩ := q
   exact h2 pins s1 σ' H' D I' q
 | ret v => exact q
 | brk => exact q
 | cont => exact q
theorem zg (h1:PS X st t):PSs X [st] t := by
 intro pins s σ H D I h
 refine wpAny_execs_cons (thn (h1 pins s σ H D I h) fun f s1 q => ?_)
 cases f with
 | next => exact wpAny_execs_nil q
 | ret v => exact q
 | brk => exact q
 | cont => exact q
theorem Inv.quiet {pins:List (Addr × Obj)} {σ:St} {H:Hp} {s:Shared} (I:Inv X pins σ H s):interactive X.env = false := by simp [interactive,I.ok.kind]
def zbQ (te:TE):TS := fun D σ H => te σ H fun _ H1 => D.nx σ H1
theorem z8 (he:PE X e te) (hs:swapsWith e none pos.line X.env = pure false := by rfl):PS X (.Expr e pos) (zbQ te) := by
 intro pins s σ H D I h
 exact wpAny_Expr_any (thn (he pins s σ H _ I h) fun v s1 ⟨x,H1,I1,r1,q1⟩ => ⟨σ,H1,I1,q1⟩) I.quiet hs
def tRet (te:TE):TS := fun D σ H => te σ H D.rt
theorem zn (he:PE X e te):PS X (.Return (some e) pos) (tRet te) := by
 intro pins s σ H D I h
 exact wpAny_Return_some (thn (he pins s σ H _ I h) fun v s1 ⟨x,H1,I1,r1,q1⟩ => ⟨x,σ,H1,I1,r1,q1⟩)
def tIfS (c:TT) (t u:TS):TS := fun D σ H => c σ H fun b H1 => if b = true then t D σ H1 else u D σ H1
theorem zO {c:Expr} {a b:List Stmt} {tc:TT} (hc:PT X c tc) (ha:PSs X a t) (hb:PSs X b u):PS X (.If c a b pos) (tIfS tc t u) := by
 intro pins s σ H D I h
 refine wpAny_If (thn (hc pins s σ H _ I h) fun d s1 ⟨H1,I1,q1⟩ => ?_)
 cases d with
 | true => exact ha pins s1 σ H1 D I1 q1
 | false => exact hb pins s1 σ H1 D I1 q1
def zaY:TS := fun _ _ _ => False
theorem QL:PS X st zaY := fun _ _ _ _ _ _ h => h.elim
end
abbrev TG := V -> St -> Hp -> (St -> Hp -> Prop) -> Prop
abbrev TGs := List V -> St -> Hp -> (St -> Hp -> Prop) -> Prop
def PG (X:Cx) (target:Expr) (t:TG):Prop :=
 ∀ (pins:List (Addr × Obj)) (s:Shared) (σ:St) (H:Hp) (v:V) (u:Value) (Q:St -> Hp -> Prop),Inv X pins σ H s -> RelV v u -> t v σ H Q ->
   wpAny (model X.prog X.w) X.A (assign target X.env u) (fun _ s' => ∃ σ' H',Inv X pins σ' H' s' /\ Q σ' H') X.xe s
def PGs (X:Cx) (ts:List Expr) (t:TGs):Prop :=
 ∀ (pins:List (Addr × Obj)) (s:Shared) (σ:St) (H:Hp) (vs:List V) (us:List Value) (Q:St -> Hp -> Prop),Inv X pins σ H s -> Vals vs us -> t vs σ H Q ->
   wpAny (model X.prog X.w) X.A (assignInOrder ((assignEach ts X.env).map (·.2)) us) (fun _ s' => ∃ σ' H',Inv X pins σ' H' s' /\ Q σ' H') X.xe s
abbrev TSet := V -> V -> V -> Hp -> (Hp -> Prop) -> Prop
def PSet (X:Cx) (t:TSet):Prop :=
 ∀ (pins:List (Addr × Obj)) (s:Shared) (σ:St) (H:Hp) (o i v:V) (ov iv u:Value) (Q:Hp -> Prop),Inv X pins σ H s -> RelV o ov -> RelV i iv -> RelV v u -> t o i v H Q ->
   wpAny (model X.prog X.w) X.A (setItem ov iv u) (fun _ s' => ∃ H',Inv X pins σ H' s' /\ Q H') X.xe s
abbrev TIp := V -> V -> Hp -> VK -> Prop
def PIp (X:Cx) (op:Operator) (t:TIp):Prop :=
 ∀ (pins:List (Addr × Obj)) (s:Shared) (σ:St) (H:Hp) (x y:V) (v u:Value) (Q:VK),Inv X pins σ H s -> RelV x v -> RelV y u -> t x y H Q ->
   wpAny (model X.prog X.w) X.A (inplaceOp op v u) (EP X pins σ Q) X.xe s
section
variable {X:Cx} {pos:Pos}
def z6 (i:Nat):TG := fun v σ H Q => Q (σ.set i (some v)) H
theorem zr {i:Nat} {x:Str} (hN:X.N.Nodup) (hi:X.N[i]? = some x) (hx:Loc X.env.scope x) (hf:X.fn x = true \/ X.env.scope.names.lookup x = some .local := by first | exact .inl rfl | exact .inr rfl | assumption):PG X (.Name x pos) (z6 i) := by
 intro pins s σ H v u Q I r h
 exact wpAny_assign_Name (jj I hN hi hx r (fun s' I' => ⟨_,H,I',h⟩) hf)
def gNil:TGs := fun vs σ H Q => vs = [] /\ Q σ H
def zbR (t:TG) (u:TGs):TGs := fun vs σ H Q => ∃ v r,vs = v :: r /\ t v σ H fun σ' H' => u r σ' H' Q
theorem yU:PGs X [] gNil := by
 intro pins s σ H vs us Q I r h
 obtain ⟨e,h⟩ := h
 subst e
 cases r
 exact assignInOrder_nil ⟨σ,H,I,h⟩
theorem zP {e:Expr} {es:List Expr} {t:TG} {u:TGs} (h1:PG X e t) (h2:PGs X es u)
   (hs:(assignEach (e :: es) X.env).map (·.2) = assign e X.env :: (assignEach es X.env).map (·.2) := by rfl):PGs X (e :: es) (zbR t u) := by
 intro pins s σ H vs us Q I r h
 obtain ⟨v,vr,e1,h⟩ := h
 subst e1
 cases r with
 | cons r rr =>
   rw [hs]
   refine assignInOrder_cons (thn (h1 pins s σ H _ _ _ I r h) fun _ s1 ⟨σ1,H1,I1,q1⟩ => ?_)
   exact h2 pins s1 σ1 H1 _ _ Q I1 rr q1
def gTup (K:PySem.W.Frag) (n:Nat) (t:TGs):TG := fun v σ H Q => ∃ a xs,v = .ref a /\ SqT K H a xs /\ xs.length = n /\ t xs σ H Q
theorem qg {es:List Expr} {k:Nat} {t:TGs} {n:Nat} (hc:X.calm = true) (h:PGs X es t)
   (hn:(assignEach es X.env).length = n := by rfl) (hst:(assignEach es X.env).findIdx? (·.1) = none := by rfl):PG X (.Tuple es k pos) (gTup X.K n t) := by
 intro pins s σ H v u Q I r hw
 obtain ⟨a,xs,e1,hq,hl,hw⟩ := hw
 subst e1
 cases r
 obtain ⟨its,rv,ht,hz⟩ := I.tuple hq
 refine assign_Tuple_tuple (I.ok.hd hc) ht (by simp [hn,<- hl,rv.length]) hst fun h' hx => ?_
 have I1:Inv X pins σ H { s with heap := h' } := I.kept (t' := s.toks) fun b o e => hx b o (Nat.ne_of_lt (Heap.lt_size e)) e
 exact h pins _ σ H xs _ Q I1 (by simpa using rv) hw
def gSub (to ti:TE) (t:TSet):TG := fun v σ H Q => to σ H fun o H1 => ti σ H1 fun i H2 => t o i v H2 fun H3 => Q σ H3
theorem jD {o i:Expr} {to ti:TE} {t:TSet} (ho:PE X o to) (hi:PE X i ti) (hs:PSet X t)
   (ha:∀ v,assign (.Subscript o i pos) X.env v = (do
     let ov <- holding [v] (eval o X.env)
     let iv <- holding [v,ov] (eval i X.env)
     standAt pos
     holding [v,ov,iv] (setItem ov iv v)
     release [v,ov,iv] []) := by intro _; rfl):PG X (.Subscript o i pos) (gSub to ti t) := by
 intro pins s σ H v u Q I r h
 rw [ha]
 refine wpAny_bind (wpAny_holding (thn (ho pins s σ H _ I h) fun ov s1 ⟨x,H1,I1,r1,q1⟩ => ?_))
 refine wpAny_bind (wpAny_holding (thn (hi pins s1 σ H1 _ I1 q1) fun iv s2 ⟨y,H2,I2,r2,q2⟩ => ?_))
 refine wpAny_bind (wpAny_standAt (wpAny_bind (wpAny_holding (thn (hs pins s2 σ H2 x y v ov iv u _ I2 r1 r2 r q2) fun _ s3 ⟨H3,I3,q3⟩ => ?_))))
 exact wpAny_release ⟨σ,H3,I3,q3⟩
def tAsg (te:TE) (g:TG):TS := fun D σ H => te σ H fun x H1 => g x σ H1 D.nx
theorem qh {tg e:Expr} {te:TE} {g:TG} (he:PE X e te) (hg:PG X tg g) (hs:swapsWithSole [tg] e pos.line X.env = pure false := by rfl) (hw:swappedStores [tg] e X.env = pure none := by rfl)
   (h1:(assignEach [tg] X.env).map (·.2) = [assign tg X.env] := by rfl):PS X (.Assign [tg] e pos) (tAsg te g) := by
 intro pins s σ H D I h
 refine wpAny_Assign_stores (thn (he pins s σ H _ I h) fun v s1 ⟨x,H1,I1,r1,q1⟩ => ?_) hs hw
 rw [h1]
 exact thn (hg pins s1 σ H1 x v _ I1 r1 q1) fun _ s2 q => q
theorem zx {i:Nat} {x:Str} {e:Expr} {te:TE} {pos':Pos} (hN:X.N.Nodup) (hi:X.N[i]? = some x) (hx:Loc X.env.scope x) (he:PE X e te) (hs:swapsWith e (some (.Name x pos')) pos.line X.env = pure false := by rfl) (hf:X.fn x = true \/ X.env.scope.names.lookup x = some .local := by first | exact .inl rfl | exact .inr rfl | assumption) :
   PS X (.Assign [.Name x pos'] e pos) (tAsg te (z6 i)) := by
 intro pins s σ H D I h
 refine wpAny_Assign_Name (thn (he pins s σ H _ I h) fun v s1 ⟨y,H1,I1,r1,q1⟩ => ?_) hs
 exact jj I1 hN hi hx r1 (fun s2 I2 => ⟨_,H1,I2,q1⟩) hf
def tAug (i:Nat) (te:TE) (ti:TIp):TS := fun D σ H => ∃ x,σ[i]? = some (some x) /\ te σ H fun y H1 => ti x y H1 fun z H2 => D.nx (σ.set i (some z)) H2
theorem Ws {i:Nat} {x:Str} {e:Expr} {te:TE} {op:Operator} {ti:TIp} {pos':Pos} (hN:X.N.Nodup) (hi:X.N[i]? = some x) (hx:Loc X.env.scope x) (he:PE X e te) (ho:PIp X op ti) (hf:X.fn x = true \/ X.env.scope.names.lookup x = some .local := by first | exact .inl rfl | exact .inr rfl | assumption) :
   PS X (.AugAssign (.Name x pos') op e pos) (tAug i te ti) := by
 intro pins s σ H D I h
 obtain ⟨v,e1,h⟩ := h
 obtain ⟨m,hn,hl⟩ := I.loc
 have vis:Vis X.env.scope x := by rcases hx with k | k; exact .inl k; exact .inr (.inl k)
 obtain ⟨u,r,l⟩ := hl i x v hi e1 vis
 refine wpAny_AugAssign_Name ?_
 have go:wpAny (model X.prog X.w) X.A (eval e X.env) (fun w s₂ => wpAny (model X.prog X.w) X.A (inplaceOp op u w) (fun r s₃ => wpAny (model X.prog X.w) X.A (storeName X.env x r) (fun _ => SP X pins D .next) X.xe s₃) X.xe s₂) X.xe s := by
   refine thn (he pins s σ H _ I h) fun w s1 ⟨y,H1,I1,r1,q1⟩ => ?_
   refine thn (ho pins s1 σ H1 v y u w _ I1 r r1 q1) fun z s2 ⟨zv,H2,I2,r2,q2⟩ => ?_
   exact jj I2 hN hi hx r2 (fun s3 I3 => ⟨_,H2,I3,q2⟩) hf
 rcases l with ⟨hk,hm⟩ | ⟨hk,c,hc,hcell⟩
 · exact wpAny_loadName_local I.ok.kind hk hn hm go
 · rcases hk with hk | hk
   · exact wpAny_loadName_cell I.ok.kind hk hc hcell go
   · rcases hx with k | k
     · have:X.env.scope.names.lookup x = some .free := hk
       rw [k] at this; cases this
     · have:X.env.scope.names.lookup x = some .free := hk
       rw [k] at this; cases this
def ipI (f:Int -> Int -> Int):TIp := fun x y H Q => ∃ i j,x = .int i /\ y = .int j /\ Q (.int (f i j)) H
theorem Wt:PIp X .Add (ipI fun i j => i + j) := by
 intro pins s σ H x y v u Q I r1 r2 h
 obtain ⟨i,j,e1,e2,q⟩ := h
 subst e1; subst e2
 obtain ⟨t,rfl⟩ := r1
 obtain ⟨t',rfl⟩ := r2
 exact iadd_int ⟨.int _,H,I.tok _,⟨_,rfl⟩,q⟩
end
section
variable {X:Cx} {pos:Pos}
def Wu (c:TT) (tb:TS):TS := fun D σ H => ∃ W:Nat -> St -> Hp -> Prop,(∃ m,W m σ H) /\ ∀ m σ H,W m σ H ->
 c σ H fun b H1 => if b = true then ∃ N:St -> Hp -> Prop,(∀ σ' H',N σ' H' -> ∃ m',m' < m /\ W m' σ' H') /\ tb { D with nx := N,ct := N,bk := D.nx } σ H1 else D.nx σ H1
theorem wP {c:Expr} {body:List Stmt} {tc:TT} {tb:TS} (hp:PassesOwn (model X.prog X.w) X.A X.env X.xe) (hc:PT X c tc) (hb:PSs X body tb):PS X (.While c body [] pos) (Wu tc tb) := by
 intro pins s σ H D I h
 obtain ⟨W,⟨m0,w0⟩,turn⟩ := h
 refine wpAny_While (codeAny_whileLoop (fun n s' => ∃ σ' H',Inv X pins σ' H' s' /\ W n σ' H') ?_ m0 ⟨σ,H,I,w0⟩)
 rintro n s1 ⟨σ1,H1,I1,w1⟩
 refine wpAny_passesOwn hp (thn (hc pins s1 σ1 H1 _ I1 (turn n σ1 H1 w1)) fun b s2 ⟨H2,I2,q2⟩ => ?_)
 cases b with
 | true =>
   obtain ⟨N,hN,q2⟩ := q2
   rw [if_pos rfl]
   refine wpAny_passesOwn hp (thn (hb pins s2 σ1 H2 _ I2 q2) fun f s3 q3 => ?_)
   cases f with
   | next =>
     obtain ⟨σ3,H3,I3,n3⟩ := q3
     obtain ⟨m',hm,w3⟩ := hN σ3 H3 n3
     exact ⟨m',hm,σ3,H3,I3,w3⟩
   | cont =>
     obtain ⟨σ3,H3,I3,n3⟩ := q3
     obtain ⟨m',hm,w3⟩ := hN σ3 H3 n3
     exact ⟨m',hm,σ3,H3,I3,w3⟩
   | brk => exact q3
   | ret v => exact q3
 | false =>
   rw [if_neg Bool.false_ne_true]
   exact wpAny_execs_nil ⟨σ1,H2,I2,q2⟩
end
structure It where
 go:Nat -> Hp -> Prop
 yld:Nat -> Hp -> V -> Hp -> Prop
 stop:Nat -> Hp -> Prop
def FpOk (X:Cx) (pins:List (Addr × Obj)) (H:Hp) (b:Addr):Prop :=
 H b = none /\ b ≠ X.env.locals /\ b ∉ X.fs /\ (b ∈ X.ex \/ X.s₀.heap.objs.size <= b) /\ (∀ x c,X.env.cells.lookup x = some c -> c ≠ b) /\ ∀ p ∈ X.pn ++ pins,p.1 ≠ b
theorem Inv.fpOk {X:Cx} {pins:List (Addr × Obj)} {σ:St} {H H':Hp} {s:Shared} {b:Addr} (I:Inv X pins σ H s) (hb:s.heap.objs.size <= b) (hn:H' b = none):FpOk X pins H' b := by
 refine ⟨hn,Nat.ne_of_gt (Nat.lt_of_lt_of_le I.lt hb),I.nofs hb,.inr (Nat.le_trans I.sz hb),fun x c e z => ?_,fun p hp z => ?_⟩
 · obtain ⟨v,q⟩ := I.cell x c e
   exact absurd (Nat.lt_of_lt_of_le q.lt (by rw [z]; exact hb)) (Nat.lt_irrefl _)
 · exact absurd (Nat.lt_of_lt_of_le (Heap.lt_size (I.pin p hp).1) (by rw [z]; exact hb)) (Nat.lt_irrefl _)
structure Turn (P:Program) (w:World) (K:PySem.W.Frag) (tg:Expr) (J:It) (fp:List Addr) (it:Addr) (tn:Nat -> Heap -> Prop):Prop where
 mem:it ∈ fp
 obj:∀ i h,tn i h -> ∀ b ∈ fp,∃ o,h.get? b = some o /\ ∀ v,o.data ≠ .cell v
 keep:∀ i h h',tn i h -> (∀ b ∈ fp,∀ o,h.get? b = some o -> h'.get? b = some o) -> tn i h'
 item:∀ (X:Cx),X.prog = P -> X.w = w -> X.K = K -> X.calm = true -> ∀ (i:Nat) (pins:List (Addr × Obj)) (s:Shared) (σ:St) (H:Hp) (E:Value -> Shared -> Prop),Inv X pins σ H s -> (∀ b ∈ fp,FpOk X pins H b) -> tn i s.heap -> J.go i H ->
   wpAny (model P w) X.A (pyNext (.ref it)) (fun r s1 => ∃ u,r = some u /\
     wpAny (model P w) X.A (letOwnedTupleGo tg (.ref it) u) (fun _ s2 => ∃ x H',Inv X pins σ H' s2 /\ RelV x u /\ J.yld i H x H' /\ tn (i + 1) s2.heap /\ ∀ b ∈ fp,H' b = none) E s1) E s
 done:∀ (X:Cx),X.prog = P -> X.w = w -> X.K = K -> X.calm = true -> ∀ (i:Nat) (pins:List (Addr × Obj)) (s:Shared) (σ:St) (H:Hp) (E:Value -> Shared -> Prop),Inv X pins σ H s -> (∀ b ∈ fp,FpOk X pins H b) -> tn i s.heap -> J.stop i H ->
   wpAny (model P w) X.A (pyNext (.ref it)) (fun r s1 => r = none /\ Inv X pins σ H s1) E s
 self:∀ (A:Around) (i:Nat) (s:Shared) (Q:Value -> Shared -> Prop) (E:Value -> Shared -> Prop),tn i s.heap -> Q (.ref it) s -> wpAny (model P w) A (pyIter (.ref it)) Q E s
abbrev TI := St -> Hp -> (It -> Hp -> Prop) -> Prop
def PIE (X:Cx) (pins:List (Addr × Obj)) (σ:St) (tg:Expr) (R:It -> Hp -> Prop) (itv:Value) (s2:Shared):Prop :=
 ∃ (it:Addr) (fp:List Addr) (tn:Nat -> Heap -> Prop) (J:It) (H':Hp),itv = .ref it /\ Inv X pins σ H' s2 /\ Turn X.prog X.w X.K tg J fp it tn /\ tn 0 s2.heap /\ (∀ b ∈ fp,FpOk X pins H' b) /\ R J H'
def PI (X:Cx) (tg iter:Expr) (wi:TI):Prop :=
 ∀ (pins:List (Addr × Obj)) (s:Shared) (σ:St) (H:Hp) (R:It -> Hp -> Prop),Inv X pins σ H s -> wi σ H R ->
   wpAny (model X.prog X.w) X.A (eval iter X.env) (fun v s1 => wpAny (model X.prog X.w) X.A (pyIter v) (PIE X pins σ tg R) X.xe s1) X.xe s
theorem jE {M:Model} {A:Around} {E:Value -> Shared -> Prop} {s:Shared} {tg:Expr} {it:Addr} {u:Value} {o:Obj} {n:String} {vs:Array Value} {Q:Unit -> Shared -> Prop} (ho:s.heap.get? it = some o) (hc:o.cls = .type n) (hd:o.data = .fields vs)
   (hn:["enumerate","zip","dict_itemiterator","dict_reverseitemiterator","odict_iterator","itertools.zip_longest","itertools.pairwise"].contains n = false) (hQ:Q () s):wpAny M A (letOwnedTupleGo tg (.ref it) u) Q E s := by
 unfold letOwnedTupleGo
 cases tg <;> first
   | exact wpAny_pure hQ
   | (cases u <;> first
       | exact wpAny_pure hQ
       | (refine wpAny_bind (wpAny_load ho ?_)
          rw [hc,hd]
          show wpAny M A (if (["enumerate","zip","dict_itemiterator","dict_reverseitemiterator","odict_iterator","itertools.zip_longest","itertools.pairwise"].contains n && vs[0]? == some (rawInt _)) = true then _ else _) Q E s
          rw [if_neg (by intro h; rw [hn,Bool.false_and] at h; cases h)]
          exact wpAny_pure hQ))
def Itl (K:PySem.W.Frag) (a:Addr):It :=
 ⟨fun i H => ∃ xs x,SqL K H a xs /\ xs[i]? = some x,fun i H x H' => H' = H /\ ∀ xs,SqL K H a xs -> xs[i]? = some x,fun i H => ∃ xs,SqL K H a xs /\ xs.length <= i⟩
def Itt (K:PySem.W.Frag) (a:Addr):It :=
 ⟨fun i H => ∃ xs x,SqT K H a xs /\ xs[i]? = some x,fun i H x H' => H' = H /\ ∀ xs,SqT K H a xs -> xs[i]? = some x,fun i H => ∃ xs,SqT K H a xs /\ xs.length <= i⟩
def Itr (lo:Int) (n:Nat):It := ⟨fun i _ => i < n,fun i H x H' => H' = H /\ x = .int (lo + i),fun i _ => n <= i⟩
theorem Wv {P:Program} {w:World} {K:PySem.W.Frag} {tg:Expr} (a it:Addr):Turn P w K tg (Itl K a) [it] it (fun i h => h.IsListIter it a i) where
 mem := by simp
 obj := fun i h st b hb => by
   have e:b = it := by simpa using hb
   subst e
   obtain ⟨o,e,c,d⟩ := st
   exact ⟨o,e,fun v z => by rw [d] at z; cases z⟩
 keep := fun i h h' st k => st.at fun o e => k it (by simp) o e
 item := by
   intro X hP hw hK hc i pins s σ H E I hf st hg
   subst hP hw hK
   obtain ⟨xs,x,hq,hx⟩ := hg
   obtain ⟨its,rv,p,hz⟩ := I.list hq
   obtain ⟨u,hu,ru⟩ := rv.get hx
   obtain ⟨f0,f1,f2,f3,f4,f5⟩ := hf it (by simp)
   refine wpAny_pyNext_list_item st p.isList (x := u) (by simpa using hu) fun h' st' sb => ?_
   have I1:Inv X pins σ H { s with heap := h' } := I.turned (t' := s.toks) (fun b o hb e => (sb.2 b hb).trans e) f0 f1 f3 f4 f5
   obtain ⟨o,e,c,d⟩ := id st'
   exact ⟨u,rfl,jE (s := { s with heap := h' }) e c d (by decide) ⟨x,H,I1,ru,⟨rfl,fun ys hy => by rw [I.list_inj hy hq]; exact hx⟩,st',fun b hb => (hf b hb).1⟩⟩
 done := by
   intro X hP hw hK hc i pins s σ H E I hf st hg
   subst hP hw hK
   obtain ⟨xs,hq,hx⟩ := hg
   obtain ⟨its,rv,p,hz⟩ := I.list hq
   obtain ⟨f0,f1,f2,f3,f4,f5⟩ := hf it (by simp)
   have hl := rv.length
   exact wpAny_pyNext_list_end (I.ok.hd hc) st p.isList (by simp; omega) fun h' eb => ⟨rfl,I.turned (t' := s.toks) (fun b o hb e => eb b o hb e) f0 f1 f3 f4 f5⟩
 self := fun _ _ _ _ _ st h => wpAny_pyIter_listiter st h
theorem XR {P:Program} {w:World} {K:PySem.W.Frag} {tg:Expr} (a it:Addr):Turn P w K tg (Itt K a) [it] it (fun i h => h.IsTupleIter it a i) where
 mem := by simp
 obj := fun i h st b hb => by
   have e:b = it := by simpa using hb
   subst e
   obtain ⟨o,e,c,d⟩ := st
   exact ⟨o,e,fun v z => by rw [d] at z; cases z⟩
 keep := fun i h h' st k => st.at fun o e => k it (by simp) o e
 item := by
   intro X hP hw hK hc i pins s σ H E I hf st hg
   subst hP hw hK
   obtain ⟨xs,x,hq,hx⟩ := hg
   obtain ⟨its,rv,p,hz⟩ := I.tuple hq
   obtain ⟨u,hu,ru⟩ := rv.get hx
   obtain ⟨f0,f1,f2,f3,f4,f5⟩ := hf it (by simp)
   refine wpAny_pyNext_tuple_item st (show s.heap.IsTuple a its.toArray from p) (x := u) (by simpa using hu) fun h' st' sb => ?_
   have I1:Inv X pins σ H { s with heap := h' } := I.turned (t' := s.toks) (fun b o hb e => (sb.2 b hb).trans e) f0 f1 f3 f4 f5
   obtain ⟨o,e,c,d⟩ := id st'
   exact ⟨u,rfl,jE (s := { s with heap := h' }) e c d (by decide) ⟨x,H,I1,ru,⟨rfl,fun ys hy => by rw [I.tuple_inj hy hq]; exact hx⟩,st',fun b hb => (hf b hb).1⟩⟩
 done := by
   intro X hP hw hK hc i pins s σ H E I hf st hg
   subst hP hw hK
   obtain ⟨xs,hq,hx⟩ := hg
   obtain ⟨its,rv,p,hz⟩ := I.tuple hq
   obtain ⟨f0,f1,f2,f3,f4,f5⟩ := hf it (by simp)
   have hl := rv.length
   exact wpAny_pyNext_tuple_end (I.ok.hd hc) st (show s.heap.IsTuple a its.toArray from p) (by simp; omega) fun h' eb => ⟨rfl,I.turned (t' := s.toks) (fun b o hb e => eb b o hb e) f0 f1 f3 f4 f5⟩
 self := fun _ _ _ _ _ st h => wpAny_pyIter_tupleiter st h
theorem XS {P:Program} {w:World} {K:PySem.W.Frag} {tg:Expr} (it:Addr) (lo:Int) (n:Nat):Turn P w K tg (Itr lo n) [it] it (fun i h => IsRangeIter h it (lo + (i:Nat) * 1) ((n:Int) - (i:Nat)) 1) where
 mem := by simp
 obj := fun i h st b hb => by
   have e:b = it := by simpa using hb
   subst e
   exact ⟨_,st,fun v z => by
     have z':Data.fields _ = Data.cell v := z
     cases z'⟩
 keep := fun i h h' st k => k it (by simp) _ st
 item := by
   intro X hP hw hK hc i pins s σ H E I hf st hg
   subst hP hw hK
   obtain ⟨f0,f1,f2,f3,f4,f5⟩ := hf it (by simp)
   have W := Walks.range (prog := X.prog) (w := X.w) (I.ok.hd hc) it lo 1 n
   refine W.item i s _ _ hg st fun v h' tk hv st' kk => ?_
   obtain ⟨t,rfl⟩ := hv
   have I1:Inv X pins σ H { s with heap := h',toks := tk } := I.turned (fun b o hb e => kk b o (by simpa using hb) e) f0 f1 f3 f4 f5
   refine ⟨_,rfl,jE (s := { s with heap := h',toks := tk }) (n := "range_iterator") st' rfl rfl (by decide) ⟨.int (lo + i),H,I1,⟨t,?_⟩,⟨rfl,rfl⟩,st',fun b hb => (hf b hb).1⟩⟩
   rw [Int.mul_one]
 done := by
   intro X hP hw hK hc i pins s σ H E I hf st hg
   subst hP hw hK
   obtain ⟨f0,f1,f2,f3,f4,f5⟩ := hf it (by simp)
   exact wpAny_pyNext_range_end (I.ok.hd hc) st (by have:n <= i := hg; omega) fun h' eb => ⟨rfl,I.turned (t' := s.toks) (fun b o hb e => eb b o hb e) f0 f1 f3 f4 f5⟩
 self := fun _ _ _ _ _ st h => wpAny_pyIter_rangeiter st h
end L2
namespace L2
open PySem PySem.Spec PyProof.Rows
section
variable {X:Cx} {tg:Expr}
def zbS (K:PySem.W.Frag) (tl:TE):TI := fun σ H R => tl σ H fun x H1 => ∃ a,x = .ref a /\ (∃ xs,SqL K H1 a xs) /\ R (Itl K a) H1
def iTup (K:PySem.W.Frag) (tl:TE):TI := fun σ H R => tl σ H fun x H1 => ∃ a,x = .ref a /\ (∃ xs,SqT K H1 a xs) /\ R (Itt K a) H1
theorem yi {l:Expr} {tl:TE} (hl:PE X l tl):PI X tg l (zbS X.K tl) := by
 intro pins s σ H R I h
 refine thn (hl pins s σ H _ I h) fun v s1 ⟨x,H1,I1,r1,q1⟩ => ?_
 obtain ⟨a,e,⟨xs,hq⟩,q⟩ := q1
 subst e
 cases r1
 obtain ⟨its,rv,p,hz⟩ := I1.list hq
 refine wpAny_pyIter_list p.isList ?_
 refine ⟨s1.heap.objs.size,[s1.heap.objs.size],_,_,H1,rfl,I1.kept (t' := s1.toks) fun b o e => Heap.get?_push_of_some _ e,Wv a _,⟨_,Heap.get?_push_size _ rfl,rfl,rfl⟩,fun b hb => ?_,q⟩
 have e:b = s1.heap.objs.size := by simpa using hb
 subst e
 exact I1.fpOk (Nat.le_refl _) (I1.hok.fresh (Nat.le_refl _))
theorem wn {l:Expr} {tl:TE} (hl:PE X l tl):PI X tg l (iTup X.K tl) := by
 intro pins s σ H R I h
 refine thn (hl pins s σ H _ I h) fun v s1 ⟨x,H1,I1,r1,q1⟩ => ?_
 obtain ⟨a,e,⟨xs,hq⟩,q⟩ := q1
 subst e
 cases r1
 obtain ⟨its,rv,p,hz⟩ := I1.tuple hq
 refine wpAny_pyIter_tuple (show s1.heap.IsTuple a its.toArray from p) ?_
 refine ⟨s1.heap.objs.size,[s1.heap.objs.size],_,_,H1,rfl,I1.kept (t' := s1.toks) fun b o e => Heap.get?_push_of_some _ e,XR a _,⟨_,Heap.get?_push_size _ rfl,rfl,rfl⟩,fun b hb => ?_,q⟩
 have e:b = s1.heap.objs.size := by simpa using hb
 subst e
 exact I1.fpOk (Nat.le_refl _) (I1.hok.fresh (Nat.le_refl _))
theorem QM {pins:List (Addr × Obj)} {σ:St} {H:Hp} {s:Shared} {R:It -> Hp -> Prop} {E:Value -> Shared -> Prop} {lo hi:Int} {t u v:Tok} {tk:Nat} (I:Inv X pins σ H s) (h1:-(2 ^ 62) <= lo) (h2:lo < 2 ^ 62) (h3:-(2 ^ 62) <= hi) (h4:hi < 2 ^ 62)
   (q:R (Itr lo (hi - lo).toNat) H):wpAny (model X.prog X.w) X.A (pyIter (.ref s.heap.objs.size)) (PIE X pins σ tg R) E { s with heap := s.heap.push { cls := .type "range",data := .fields #[.int lo t,.int hi u,.int 1 v] },toks := tk } := by
 refine wpAny_pyIter_range (IsRange.new ..) (small_one h1 h2 h3 h4) ?_
 have I1:Inv X pins σ H { s with heap := s.heap.push { cls := .type "range",data := .fields #[.int lo t,.int hi u,.int 1 v] },toks := tk } := I.kept fun b o e => Heap.get?_push_of_some _ e
 refine ⟨(s.heap.push { cls := .type "range",data := .fields #[.int lo t,.int hi u,.int 1 v] }).objs.size,[(s.heap.push { cls := .type "range",data := .fields #[.int lo t,.int hi u,.int 1 v] }).objs.size],_,_,H,rfl,
   I1.kept (t' := tk) fun b o e => Heap.get?_push_of_some _ e,XS _ lo (hi - lo).toNat,?_,fun b hb => ?_,q⟩
 · have e1:lo + ((0:Nat):Int) * 1 = lo := by simp
   have e2:(((hi - lo).toNat:Nat):Int) - ((0:Nat):Int) = Builtin.Range.rangeSize lo hi 1 := by rw [rangeSize_one]; split <;> omega
   show IsRangeIter _ _ (lo + ((0:Nat):Int) * 1) ((((hi - lo).toNat:Nat):Int) - ((0:Nat):Int)) 1
   rw [e1,e2]
   exact Heap.get?_push_size _ rfl
 · have e:b = (s.heap.push { cls := .type "range",data := .fields #[.int lo t,.int hi u,.int 1 v] }).objs.size := by simpa using hb
   subst e
   exact I1.fpOk (Nat.le_refl _) (I1.hok.fresh (Nat.le_refl _))
def zbT (ta:TA):TI := fun σ H R => ta σ H fun vs H1 => ∃ j:Int,vs = [.int j] /\ -(2 ^ 62) <= j /\ j < 2 ^ 62 /\ R (Itr 0 j.toNat) H1
theorem yM {a:Expr} {ta:TA} {p pos:Pos} (hg:Gl X "range") (hm:X.mg "range" = none) (ha:PA X [a] ta) (hs:starEach [a] X.env = [(false,eval a X.env)] := by rfl):PI X tg (.Call (.Name "range" p) [a] [] pos) (zbT ta) := by
 intro pins s σ H R I h
 refine Call_ (yQ I hg hm boot_range (PyProof.Rows.callWith_type1 (thn (ha pos pins s σ H _ I h) fun us s1 ⟨vs,H1,I1,r1,q1⟩ => ?_) hs rfl))
 obtain ⟨j,e,q1,q2,q⟩ := q1
 subst e
 cases r1 with
 | cons r rr =>
   cases rr
   obtain ⟨t,rfl⟩ := r
   exact call_range_1 (QM I1 (by omega) (by omega) q1 q2 (by simpa using q))
def tFor (wi:TI) (g:TG) (tb:TS):TS := fun D σ H => wi σ H fun J H1 => ∃ W:Nat -> Nat -> St -> Hp -> Prop,(∃ m,W 0 m σ H1) /\ ∀ i m σ H,W i m σ H ->
 (J.stop i H /\ D.nx σ H) \/ (J.go i H /\ ∃ N:St -> Hp -> Prop,(∀ σ' H',N σ' H' -> ∃ m',m' < m /\ W (i + 1) m' σ' H') /\ ∀ x H',J.yld i H x H' -> g x σ H' fun σ2 H2 => tb { D with nx := N,ct := N,bk := D.nx } σ2 H2)
def xJ (fp:List Addr) (h:Heap):List (Addr × Obj) := fp.filterMap fun b => (h.get? b).map fun o => (b,o)
theorem xO {fp:List Addr} {h:Heap} {b:Addr} {o:Obj} (hb:b ∈ fp) (e:h.get? b = some o):(b,o) ∈ xJ fp h := List.mem_filterMap.mpr ⟨b,hb,by rw [e]; rfl⟩
theorem Zr {fp:List Addr} {h:Heap} {p:Addr × Obj} (hp:p ∈ xJ fp h):p.1 ∈ fp /\ h.get? p.1 = some p.2 := by
 obtain ⟨b,hb,e⟩ := List.mem_filterMap.mp hp
 cases q:h.get? b with
 | none => rw [q] at e; cases e
 | some o =>
   rw [q] at e
   have e':(b,o) = p := Option.some.inj e
   subst e'
   exact ⟨hb,q⟩
theorem Inv.pinned {pins:List (Addr × Obj)} {σ:St} {H:Hp} {s:Shared} {fp:List Addr} (I:Inv X pins σ H s) (hf:∀ b ∈ fp,FpOk X pins H b) (ho:∀ b ∈ fp,∃ o,s.heap.get? b = some o /\ ∀ v,o.data ≠ .cell v):Inv X (pins ++ xJ fp s.heap) σ H s :=
 I.pins_of fun p hp => (List.mem_append.mp hp).elim (fun z => I.pin p (List.mem_append_right _ z)) fun z => by
   obtain ⟨hb,e⟩ := Zr z
   obtain ⟨f0,f1,f2,_⟩ := hf p.1 hb
   obtain ⟨o,e',d⟩ := ho p.1 hb
   rw [e] at e'; cases e'
   exact ⟨e,f0,f1,f2,d⟩
theorem Inv.unpinned {pins pl:List (Addr × Obj)} {σ:St} {H:Hp} {s:Shared} (I:Inv X (pins ++ pl) σ H s):Inv X pins σ H s := I.pins_of fun p hp => I.pin p (List.mem_append_right _ (List.mem_append_left _ hp))
theorem yq {iter:Expr} {body:List Stmt} {wi:TI} {g:TG} {tb:TS} {pos:Pos} (hp:PassesOwn (model X.prog X.w) X.A X.env X.xe) (hc:X.calm = true) (hi:PI X tg iter wi) (hg:PG X tg g) (hb:PSs X body tb)
   (hs:∀ x,foldedSetIterable iter X.env x = pure x := by intro _; rfl):PS X (.For tg iter body [] pos) (tFor wi g tb) := by
 intro pins s σ H D I h
 refine wpAny_For (thn (hi pins s σ H _ I h) fun v s1 h1 => thn h1 fun itv s2 h2 => ?_) hs
 obtain ⟨it,fp,tn,J,H2,e,I2,T,st2,f2,W,⟨m0,w0⟩,turn⟩ := h2
 subst e
 -- what stays true of the iterator's objects through the loop
 have stat:∀ {H':Hp},(∀ b ∈ fp,H' b = none) -> ∀ b ∈ fp,FpOk X pins H' b := fun hn b hb => ⟨hn b hb,(f2 b hb).2⟩
 refine codeAny_forLoop_any (fun n s' => ∃ i σ' H',Inv X pins σ' H' s' /\ tn i s'.heap /\ (∀ b ∈ fp,H' b = none) /\ W i n σ' H') ?_ m0 ⟨0,σ,H2,I2,st2,fun b hb => (f2 b hb).1,w0⟩
 rintro n s3 ⟨i,σ3,H3,I3,st3,fr3,w3⟩
 rcases turn i n σ3 H3 w3 with ⟨stop,qn⟩ | ⟨go,N,hN,step⟩
 · refine wpAny_passesOwn hp (thn (T.done X rfl rfl rfl hc i pins s3 σ3 H3 X.xe I3 (stat fr3) st3 stop) fun r s4 ⟨hr,I4⟩ => ?_)
   subst hr
   exact wpAny_execs_nil ⟨σ3,H3,I4,qn⟩
 · refine wpAny_passesOwn hp (thn (T.item X rfl rfl rfl hc i pins s3 σ3 H3 X.xe I3 (stat fr3) st3 go) fun r s4 ⟨u,hr,h4⟩ => ?_)
   subst hr
   refine wpAny_passesOwn hp (thn h4 fun _ s5 ⟨x,H5,I5,r5,y5,st5,fr5⟩ => ?_)
   have I5' := I5.pinned (stat fr5) (T.obj _ _ st5)
   refine wpAny_passesOwn hp (thn (hg _ s5 σ3 H5 x u _ I5' r5 (step x H5 y5)) fun _ s6 ⟨σ6,H6,I6,q6⟩ => ?_)
   refine wpAny_passesOwn hp (thn (hb _ s6 σ6 H6 _ I6 q6) fun f s7 q7 => ?_)
   have again:∀ {σ7:St} {H7:Hp},Inv X (pins ++ xJ fp s5.heap) σ7 H7 s7 -> N σ7 H7 -> ∃ m,m < n /\ ∃ i σ' H',Inv X pins σ' H' s7 /\ tn i s7.heap /\ (∀ b ∈ fp,H' b = none) /\ W i m σ' H' := fun {σ7 H7} I7 n7 => by
     obtain ⟨m',hm,w7⟩ := hN σ7 H7 n7
     refine ⟨m',hm,i + 1,σ7,H7,I7.unpinned,T.keep _ _ _ st5 fun b hb o e => (I7.pin (b,o) (List.mem_append_right _ (List.mem_append_right _ (xO hb e)))).1,fun b hb => ?_,w7⟩
     obtain ⟨o,e,d⟩ := T.obj _ _ st5 b hb
     exact (I7.pin (b,o) (List.mem_append_right _ (List.mem_append_right _ (xO hb e)))).2.1
   cases f with
   | next => obtain ⟨σ7,H7,I7,n7⟩ := q7; exact again I7 n7
   | cont => obtain ⟨σ7,H7,I7,n7⟩ := q7; exact again I7 n7
   | brk => obtain ⟨σ7,H7,I7,q7⟩ := q7; exact ⟨σ7,H7,I7.unpinned,q7⟩
   | ret v => obtain ⟨x7,σ7,H7,I7,r7,q7⟩ := q7; exact ⟨x7,σ7,H7,I7.unpinned,r7,q7⟩
end
theorem xz {K:PySem.W.Frag} {a:Addr} {xs:List V} {g:TG} {tb:TS} {D:Ends} {σ:St} {H:Hp} (Pv:Nat -> St -> Hp -> Prop) (h0:Pv 0 σ H) (hl:∀ i σ H,i <= xs.length -> Pv i σ H -> SqL K H a xs)
   (hs:∀ i x σ H,xs[i]? = some x -> Pv i σ H -> g x σ H fun σ2 H2 => tb { D with nx := Pv (i + 1),ct := Pv (i + 1),bk := D.nx } σ2 H2) (hd:∀ σ H,Pv xs.length σ H -> D.nx σ H) :
   ∃ W:Nat -> Nat -> St -> Hp -> Prop,(∃ m,W 0 m σ H) /\ ∀ i m σ H,W i m σ H ->
     ((Itl K a).stop i H /\ D.nx σ H) \/ ((Itl K a).go i H /\ ∃ N:St -> Hp -> Prop,(∀ σ' H',N σ' H' -> ∃ m',m' < m /\ W (i + 1) m' σ' H') /\ ∀ x H',(Itl K a).yld i H x H' -> g x σ H' fun σ2 H2 => tb { D with nx := N,ct := N,bk := D.nx } σ2 H2) := by
 refine ⟨fun i m σ H => m = xs.length - i /\ i <= xs.length /\ Pv i σ H,⟨xs.length,by simp,Nat.zero_le _,h0⟩,?_⟩
 rintro i m σ H ⟨rfl,hi,p⟩
 have q := hl i σ H hi p
 by_cases hlt:i < xs.length
 · refine .inr ⟨⟨xs,xs[i],q,by simp [hlt]⟩,Pv (i + 1),fun σ' H' p' => ⟨xs.length - (i + 1),by omega,rfl,hlt,p'⟩,fun x H' y => ?_⟩
   obtain ⟨e,y⟩ := y
   subst e
   exact hs i x σ _ (y xs q) p
 · have e:i = xs.length := by omega
   subst e
   exact .inl ⟨⟨xs,q,Nat.le_refl _⟩,hd σ H p⟩
theorem xp {lo:Int} {n:Nat} {g:TG} {tb:TS} {D:Ends} {σ:St} {H:Hp} (Pv:Nat -> St -> Hp -> Prop) (h0:Pv 0 σ H)
   (hs:∀ i σ H,i < n -> Pv i σ H -> g (.int (lo + i)) σ H fun σ2 H2 => tb { D with nx := Pv (i + 1),ct := Pv (i + 1),bk := D.nx } σ2 H2) (hd:∀ σ H,Pv n σ H -> D.nx σ H) :
   ∃ W:Nat -> Nat -> St -> Hp -> Prop,(∃ m,W 0 m σ H) /\ ∀ i m σ H,W i m σ H ->
     ((Itr lo n).stop i H /\ D.nx σ H) \/ ((Itr lo n).go i H /\ ∃ N:St -> Hp -> Prop,(∀ σ' H',N σ' H' -> ∃ m',m' < m /\ W (i + 1) m' σ' H') /\ ∀ x H',(Itr lo n).yld i H x H' -> g x σ H' fun σ2 H2 => tb { D with nx := N,ct := N,bk := D.nx } σ2 H2) := by
 refine ⟨fun i m σ H => m = n - i /\ i <= n /\ Pv i σ H,⟨n,by simp,Nat.zero_le _,h0⟩,?_⟩
 rintro i m σ H ⟨rfl,hi,p⟩
 by_cases hlt:i < n
 · refine .inr ⟨hlt,Pv (i + 1),fun σ' H' p' => ⟨n - (i + 1),by omega,rfl,hlt,p'⟩,fun x H' y => ?_⟩
   obtain ⟨e,y⟩ := y
   subst e y
   exact hs i σ _ hlt p
 · have e:i = n := by omega
   subst e
   exact .inl ⟨Nat.le_refl _,hd σ H p⟩
end L2
namespace L2
open PySem PySem.Spec PyProof.Rows
abbrev R2 := V -> V -> Hp -> VK -> Prop
def OpR (X:Cx) (f:Value -> Value -> Sem Value) (r:R2):Prop :=
 ∀ (pins:List (Addr × Obj)) (s:Shared) (σ:St) (H:Hp) (x y:V) (v u:Value) (Q:VK),Inv X pins σ H s -> RelV x v -> RelV y u -> r x y H Q ->
   wpAny (model X.prog X.w) X.A (f v u) (EP X pins σ Q) X.xe s
def UnR (X:Cx) (f:Value -> Sem Value) (r:V -> Hp -> VK -> Prop):Prop :=
 ∀ (pins:List (Addr × Obj)) (s:Shared) (σ:St) (H:Hp) (x:V) (v:Value) (Q:VK),Inv X pins σ H s -> RelV x v -> r x H Q ->
   wpAny (model X.prog X.w) X.A (f v) (EP X pins σ Q) X.xe s
def yx (X:Cx) (f:Value) (r:List V -> Hp -> VK -> Prop):Prop :=
 ∀ (pins:List (Addr × Obj)) (s:Shared) (σ:St) (H:Hp) (xs:List V) (us:List Value) (Q:VK),Inv X pins σ H s -> Vals xs us -> r xs H Q ->
   wpAny (model X.prog X.w) X.A (call f us) (EP X pins σ Q) X.xe s
def TruR (X:Cx) (r:V -> Hp -> (Bool -> Hp -> Prop) -> Prop):Prop :=
 ∀ (pins:List (Addr × Obj)) (s:Shared) (σ:St) (H:Hp) (x:V) (v:Value) (Q:Bool -> Hp -> Prop),Inv X pins σ H s -> RelV x v -> r x H Q ->
   wpAny (model X.prog X.w) X.A (truthy v) (TP X pins σ Q) X.xe s
def tOp (r:R2) (ta tb:TE):TE := fun σ H Q => ta σ H fun x H1 => tb σ H1 fun y H2 => r x y H2 Q
def tUn (r:V -> Hp -> VK -> Prop) (ta:TE):TE := fun σ H Q => ta σ H fun x H1 => r x H1 Q
def rI (C:Int -> Int -> Prop) (g:Int -> Int -> V):R2 := fun x y H Q => ∃ i j,x = .int i /\ y = .int j /\ C i j /\ Q (g i j) H
def rI0 (g:Int -> Int -> V):R2 := fun x y H Q => ∃ i j,x = .int i /\ y = .int j /\ Q (g i j) H
def rU (g:Int -> V):V -> Hp -> VK -> Prop := fun x H Q => ∃ i,x = .int i /\ Q (g i) H
section
variable {X:Cx} {a b c:Expr} {ta tb tc:TE} {pos:Pos}
theorem binT (ha:PE X a ta) (hb:PE X b tb) {pins:List (Addr × Obj)} {s:Shared} {σ:St} {H:Hp} {R:V -> V -> Hp -> Prop} (I:Inv X pins σ H s)
   (h:ta σ H fun x H1 => tb σ H1 fun y H2 => R x y H2) {Q:Value -> Shared -> Prop} {f:Value -> Value -> Sem Value}
   (hf:∀ v u s2 x y H2,Inv X pins σ H2 s2 -> RelV x v -> RelV y u -> R x y H2 -> wpAny (model X.prog X.w) X.A (f v u) Q X.xe s2) :
   wpAny (model X.prog X.w) X.A (eval a X.env) (fun v s₁ => wpAny (model X.prog X.w) X.A (eval b X.env) (fun u s₂ => wpAny (model X.prog X.w) X.A (f v u) Q X.xe s₂) X.xe s₁) X.xe s := by
 refine thn (ha pins s σ H _ I h) fun v s1 ⟨x,H1,I1,r1,q1⟩ => ?_
 refine thn (hb pins s1 σ H1 _ I1 q1) fun u s2 ⟨y,H2,I2,r2,q2⟩ => ?_
 exact hf v u s2 x y H2 I2 r1 r2 q2
theorem zw {op:Operator} {r:R2} (ho:OpR X (binaryOp op) r) (ha:PE X a ta) (hb:PE X b tb):PE X (.BinOp a op b pos) (tOp r ta tb) := by
 intro pins s σ H Q I h
 exact wpAny_BinOp (binT ha hb I h fun v u s2 x y H2 I2 rx ry q => ho pins s2 σ H2 x y v u Q I2 rx ry q)
theorem yP {op:UnaryOp} {r:V -> Hp -> VK -> Prop} (ho:UnR X (unaryOp op) r) (ha:PE X a ta):PE X (.UnaryOp op a pos) (tUn r ta) := by
 intro pins s σ H Q I h
 exact UnaryOp_ (thn (ha pins s σ H _ I h) fun v s1 ⟨x,H1,I1,r1,q1⟩ => ho pins s1 σ H1 x v Q I1 r1 q1)
theorem opI {f:Value -> Value -> Sem Value} {C:Int -> Int -> Prop} {g:Int -> Int -> Int}
   (rule:∀ (i j:Int) (t u:Tok) (s:Shared) (Q:Value -> Shared -> Prop) (E:Value -> Shared -> Prop),C i j -> Q (.int (g i j) s.toks) { s with toks := s.toks + 1 } -> wpAny (model X.prog X.w) X.A (f (.int i t) (.int j u)) Q E s) :
   OpR X f (rI C fun i j => .int (g i j)) := by
 intro pins s σ H x y v u Q I rx ry h
 obtain ⟨i,j,rfl,rfl,hc,q⟩ := h
 obtain ⟨t,rfl⟩ := rx
 obtain ⟨t',rfl⟩ := ry
 exact rule i j t t' s _ _ hc ⟨.int (g i j),H,I.tok _,⟨_,rfl⟩,q⟩
theorem opI0 {f:Value -> Value -> Sem Value} {g:Int -> Int -> Int}
   (rule:∀ (i j:Int) (t u:Tok) (s:Shared) (Q:Value -> Shared -> Prop) (E:Value -> Shared -> Prop),Q (.int (g i j) s.toks) { s with toks := s.toks + 1 } -> wpAny (model X.prog X.w) X.A (f (.int i t) (.int j u)) Q E s) :
   OpR X f (rI0 fun i j => .int (g i j)) := by
 intro pins s σ H x y v u Q I rx ry h
 obtain ⟨i,j,rfl,rfl,q⟩ := h
 obtain ⟨t,rfl⟩ := rx
 obtain ⟨t',rfl⟩ := ry
 exact rule i j t t' s _ _ ⟨.int (g i j),H,I.tok _,⟨_,rfl⟩,q⟩
theorem opB0 {f:Value -> Value -> Sem Value} {g:Int -> Int -> Bool}
   (rule:∀ (i j:Int) (t u:Tok) (s:Shared) (Q:Value -> Shared -> Prop) (E:Value -> Shared -> Prop),Q (.bool (g i j)) s -> wpAny (model X.prog X.w) X.A (f (.int i t) (.int j u)) Q E s) :
   OpR X f (rI0 fun i j => .bl (g i j)) := by
 intro pins s σ H x y v u Q I rx ry h
 obtain ⟨i,j,rfl,rfl,q⟩ := h
 obtain ⟨t,rfl⟩ := rx
 obtain ⟨t',rfl⟩ := ry
 exact rule i j t t' s _ _ ⟨.bl (g i j),H,I,rfl,q⟩
def CDiv (i j:Int):Prop := 0 < j /\ j < 1073741824
def CMul (i j:Int):Prop := (-(2 ^ 64) < i /\ i < 2 ^ 64) \/ (-(2 ^ 64) < j /\ j < 2 ^ 64)
theorem CMul.ok {i j:Int} (h:CMul i j):IntMulOk i j := by
 rcases h with ⟨h1,h2⟩ | ⟨h1,h2⟩
 · exact .of_left (intBits_le_64 h1 h2)
 · exact .of_right (intBits_le_64 h1 h2)
theorem ya:OpR X (binaryOp .Add) (rI0 fun i j => .int (i + j)) := opI0 fun _ _ _ _ _ _ _ q => add_int q
theorem yS:OpR X (binaryOp .Sub) (rI0 fun i j => .int (i - j)) := opI0 fun _ _ _ _ _ _ _ q => sub_int q
theorem wo:OpR X (binaryOp .Mult) (rI CMul fun i j => .int (i * j)) := opI fun _ _ _ _ _ _ _ hc q => mul_int q hc.ok
theorem j5:OpR X (binaryOp .FloorDiv) (rI CDiv fun i j => .int (i / j)) := opI fun i j _ _ _ _ _ hc q => by
 have h1:(0:Int) < j := hc.1
 have h2:j < 1073741824 := hc.2
 exact floordiv_int (by omega) (by rw [Int.fdiv_eq_ediv_of_nonneg i (by omega)]; exact q) (.inl (PyProof.noPylong_small (by omega)))
theorem yr:OpR X (binaryOp .Mod) (rI (fun _ j => 0 < j) fun i j => .int (i % j)) := opI fun i j _ _ _ _ _ hc q => by
 have h1:(0:Int) < j := hc
 exact mod_int' (by omega) (by rw [Int.fmod_eq_emod_of_nonneg i (by omega)]; exact q)
theorem unI {f:Value -> Sem Value} {g:Int -> Int}
   (rule:∀ (i:Int) (t:Tok) (s:Shared) (Q:Value -> Shared -> Prop) (E:Value -> Shared -> Prop),Q (.int (g i) s.toks) { s with toks := s.toks + 1 } -> wpAny (model X.prog X.w) X.A (f (.int i t)) Q E s) :
   UnR X f (rU fun i => .int (g i)) := by
 intro pins s σ H x v Q I rx h
 obtain ⟨i,rfl,q⟩ := h
 obtain ⟨t,rfl⟩ := rx
 exact rule i t s _ _ ⟨.int (g i),H,I.tok _,⟨_,rfl⟩,q⟩
theorem yt:UnR X (unaryOp .USub) (rU fun i => .int (-i)) := unI fun _ _ _ _ _ q => neg_int q
end
def scal:V -> V -> Bool
 | .non,.non => true | .non,.int _ => true | .int _,.non => true | .non,.bl _ => true | .bl _,.non => true | .non,.str _ => true | .str _,.non => true
 | .int _,.int _ => true | .bl _,.bl _ => true | .str _,.str _ => true | .byt _,.byt _ => true
 | .int _,.str _ => true | .str _,.int _ => true | .bl _,.str _ => true | .str _,.bl _ => true
 | _,_ => false
def rEq:R2 := fun x y H Q => scal x y = true /\ Q (.bl (decide (x = y))) H
def rNe:R2 := fun x y H Q => scal x y = true /\ Q (.bl (!decide (x = y))) H
theorem qI {i j:Int}:decide (V.int i = V.int j) = (i == j) := by
 rw [Bool.eq_iff_iff]
 simp
theorem Ww {i j:Bool}:decide (V.bl i = V.bl j) = (i == j) := by
 rw [Bool.eq_iff_iff]
 simp
theorem j6 {i j:Str}:decide (V.str i = V.str j) = (i == j) := by
 rw [Bool.eq_iff_iff]
 simp
theorem Xt {i j:Array UInt8}:decide (V.byt i = V.byt j) = (i.toList == j.toList) := by
 rw [Bool.eq_iff_iff]
 cases i
 cases j
 simp
section
variable {X:Cx} {a b c:Expr} {ta tb tc:TE} {pos:Pos}
theorem zM {pins:List (Addr × Obj)} {σ:St} {H:Hp} {s:Shared} {Q:VK} {k k':Bool} (I:Inv X pins σ H s) (q:Q (.bl k) H) (e:k = k'):EP X pins σ Q (.bool k') s := by
 subst e
 exact ⟨.bl k,H,I,rfl,q⟩
theorem xu:OpR X (compareOp .Eq) rEq := by
 intro pins s σ H x y v u Q I rx ry h
 obtain ⟨hs,q⟩ := h
 cases x with
 | non =>
   cases rx
   cases y with
   | non => cases ry; exact PySem.EqNone.eq_none_none (zM I q (by simp))
   | bl j => cases ry; exact PySem.EqNone.eq_none_bool (zM I q (by simp))
   | int j => obtain ⟨t',rfl⟩ := ry; exact PySem.EqNone.eq_none_int (zM I q (by simp))
   | str j => obtain ⟨t',rfl⟩ := ry; exact PySem.EqNone.eq_none_str (zM I q (by simp))
   | _ => exact absurd (show false = true from hs) Bool.false_ne_true
 | bl i =>
   cases rx
   cases y with
   | non => cases ry; exact PySem.EqNone.eq_bool_none (zM I q (by simp))
   | bl j => cases ry; exact eq_bool (zM I q Ww)
   | str j => obtain ⟨t',rfl⟩ := ry; exact PySem.EqMixed.eq_bool_str (zM I q (by simp))
   | _ => exact absurd (show false = true from hs) Bool.false_ne_true
 | int i =>
   obtain ⟨t,rfl⟩ := rx
   cases y with
   | non => cases ry; exact PySem.EqNone.eq_int_none (zM I q (by simp))
   | int j => obtain ⟨t',rfl⟩ := ry; exact eq_int (zM I q qI)
   | str j => obtain ⟨t',rfl⟩ := ry; exact PySem.EqMixed.eq_int_str (zM I q (by simp))
   | _ => exact absurd (show false = true from hs) Bool.false_ne_true
 | str i =>
   obtain ⟨t,rfl⟩ := rx
   cases y with
   | non => cases ry; exact PySem.EqNone.eq_str_none (zM I q (by simp))
   | bl j => cases ry; exact PySem.EqMixed.eq_str_bool (zM I q (by simp))
   | int j => obtain ⟨t',rfl⟩ := ry; exact PySem.EqMixed.eq_str_int (zM I q (by simp))
   | str j => obtain ⟨t',rfl⟩ := ry; exact eq_str (zM I q j6)
   | _ => exact absurd (show false = true from hs) Bool.false_ne_true
 | byt i =>
   obtain ⟨t,rfl⟩ := rx
   cases y with
   | byt j => obtain ⟨t',rfl⟩ := ry; exact PySem.W.eq_bytes (zM I q Xt)
   | _ => exact absurd (show false = true from hs) Bool.false_ne_true
 | _ => cases y <;> exact absurd (show false = true from hs) Bool.false_ne_true
theorem Jz:OpR X (compareOp .NotEq) rNe := by
 intro pins s σ H x y v u Q I rx ry h
 obtain ⟨hs,q⟩ := h
 cases x with
 | non =>
   cases rx
   cases y with
   | non => cases ry; exact PySem.EqNone.ne_none_none (zM I q (by simp))
   | bl j => cases ry; exact PySem.EqNone.ne_none_bool (zM I q (by simp))
   | int j => obtain ⟨t',rfl⟩ := ry; exact PySem.EqNone.ne_none_int (zM I q (by simp))
   | str j => obtain ⟨t',rfl⟩ := ry; exact PySem.EqNone.ne_none_str (zM I q (by simp))
   | _ => exact absurd (show false = true from hs) Bool.false_ne_true
 | bl i =>
   cases rx
   cases y with
   | non => cases ry; exact PySem.EqNone.ne_bool_none (zM I q (by simp))
   | bl j => cases ry; exact ne_bool (zM I q (congrArg not Ww))
   | str j => obtain ⟨t',rfl⟩ := ry; exact PySem.EqMixed.ne_bool_str (zM I q (by simp))
   | _ => exact absurd (show false = true from hs) Bool.false_ne_true
 | int i =>
   obtain ⟨t,rfl⟩ := rx
   cases y with
   | non => cases ry; exact PySem.EqNone.ne_int_none (zM I q (by simp))
   | int j => obtain ⟨t',rfl⟩ := ry; exact ne_int (zM I q (congrArg not qI))
   | str j => obtain ⟨t',rfl⟩ := ry; exact PySem.EqMixed.ne_int_str (zM I q (by simp))
   | _ => exact absurd (show false = true from hs) Bool.false_ne_true
 | str i =>
   obtain ⟨t,rfl⟩ := rx
   cases y with
   | non => cases ry; exact PySem.EqNone.ne_str_none (zM I q (by simp))
   | bl j => cases ry; exact PySem.EqMixed.ne_str_bool (zM I q (by simp))
   | int j => obtain ⟨t',rfl⟩ := ry; exact PySem.EqMixed.ne_str_int (zM I q (by simp))
   | str j => obtain ⟨t',rfl⟩ := ry; exact ne_str (zM I q (congrArg not j6))
   | _ => exact absurd (show false = true from hs) Bool.false_ne_true
 | byt i =>
   obtain ⟨t,rfl⟩ := rx
   cases y with
   | byt j => obtain ⟨t',rfl⟩ := ry; exact PySem.W.ne_bytes (zM I q (congrArg not Xt))
   | _ => exact absurd (show false = true from hs) Bool.false_ne_true
 | _ => cases y <;> exact absurd (show false = true from hs) Bool.false_ne_true
theorem xv:OpR X (compareOp .Lt) (rI0 fun i j => .bl (decide (i < j))) := opB0 fun _ _ _ _ _ _ _ q => lt_int q
theorem wb:OpR X (compareOp .LtE) (rI0 fun i j => .bl (decide (i <= j))) := opB0 fun _ _ _ _ _ _ _ q => le_int q
theorem yY:OpR X (compareOp .Gt) (rI0 fun i j => .bl (decide (j < i))) := opB0 fun _ _ _ _ _ _ _ q => gt_int q
theorem jF:OpR X (compareOp .Is) (fun x y H Q => y = .non /\ Q (.bl (decide (x = .non))) H) := by
 intro pins s σ H x y v u Q I rx ry h
 obtain ⟨rfl,q⟩ := h
 cases ry
 refine is_none_gen (zM I q ?_)
 cases x <;> first
   | (cases rx; rfl)
   | (obtain ⟨t,rfl⟩ := rx; rfl)
theorem zE (b:Expr) {op:CmpOp} (h:op ≠ .In := by decide) (h2:op ≠ .NotIn := by decide):behindInMarks op b = false := by
 have e1:(op == CmpOp.In) = false := by cases op <;> first | rfl | exact absurd rfl h
 have e2:(op == CmpOp.NotIn) = false := by cases op <;> first | rfl | exact absurd rfl h2
 cases b <;> simp [behindInMarks,e1,e2]
theorem yJ {op:CmpOp} {r:R2} (ho:OpR X (compareOp op) r) (ha:PE X a ta) (hb:PE X b tb) (hm:behindInMarks op b = false):PE X (.Compare a [op] [b] pos) (tOp r ta tb) := by
 intro pins s σ H Q I h
 exact wpAny_Compare1 (binT ha hb I h fun v u s2 x y H2 I2 rx ry q => ho pins s2 σ H2 x y v u Q I2 rx ry q) hm
def jG (t:TE):TT := fun σ H Q => t σ H fun x H' => ∃ k,x = .bl k /\ Q k H'
theorem zC {op:CmpOp} {r:R2} (ho:OpR X (compareOp op) r) (ha:PE X a ta) (hb:PE X b tb) (hm:behindInMarks op b = false):PT X (.Compare a [op] [b] pos) (jG (tOp r ta tb)) := by
 intro pins s σ H Q I h
 refine wpAny_isTrue_Compare1 (thn (ha pins s σ H _ I h) fun v s1 ⟨x,H1,I1,r1,q1⟩ => thn (hb pins s1 σ H1 _ I1 q1) fun u s2 ⟨y,H2,I2,r2,q2⟩ =>
   thn (ho pins s2 σ H2 x y v u _ I2 r1 r2 q2) fun c s3 ⟨z,H3,I3,r3,k,e,q3⟩ => ?_) hm
 subst e
 cases r3
 exact wpAny_truthy_bool ⟨H3,I3,q3⟩
def Yh (r r':R2) (ta tb tc:TE):TE := fun σ H Q => ta σ H fun x H1 => tb σ H1 fun y H2 => r x y H2 fun z H3 => ∃ k,z = .bl k /\
 (if k = true then tc σ H3 fun w' H4 => r' y w' H4 Q else Q (.bl false) H3)
theorem QN {op op':CmpOp} {r r':R2} (ho:OpR X (compareOp op) r) (ho':OpR X (compareOp op') r') (ha:PE X a ta) (hb:PE X b tb) (hc:PE X c tc)
   (hm:lastMarks [op,op'] [b,c] = false := by with_unfolding_all rfl):PE X (.Compare a [op,op'] [b,c] pos) (Yh r r' ta tb tc) := by
 intro pins s σ H Q I h
 refine Compare_chain (thn (ha pins s σ H _ I h) fun v s1 ⟨x,H1,I1,r1,q1⟩ => chain_link (thn (hb pins s1 σ H1 _ I1 q1) fun u s2 ⟨y,H2,I2,r2,q2⟩ =>
   thn (ho pins s2 σ H2 x y v u _ I2 r1 r2 q2) fun d s3 ⟨z,H3,I3,r3,k,e,q3⟩ => ?_)) hm
 subst e
 cases r3
 refine wpAny_truthy_bool ?_
 cases k with
 | false => exact ite_ff ⟨.bl false,H3,I3,rfl,q3⟩
 | true => exact ite_tt (chain_last (thn (hc pins s3 σ H3 _ I3 q3) fun w' s4 ⟨z',H4,I4,r4,q4⟩ => ho' pins s4 σ H4 y z' u w' Q I4 r2 r4 q4))
theorem Yi {op op':CmpOp} {r r':R2} (ho:OpR X (compareOp op) r) (ho':OpR X (compareOp op') r') (ha:PE X a ta) (hb:PE X b tb) (hc:PE X c tc)
   (hm:lastMarks [op,op'] [b,c] = false := by with_unfolding_all rfl):PT X (.Compare a [op,op'] [b,c] pos) (jG (Yh r r' ta tb tc)) := by
 intro pins s σ H Q I h
 refine isTrue_chain (thn (ha pins s σ H _ I h) fun v s1 ⟨x,H1,I1,r1,q1⟩ => test_link (thn (hb pins s1 σ H1 _ I1 q1) fun u s2 ⟨y,H2,I2,r2,q2⟩ =>
   thn (ho pins s2 σ H2 x y v u _ I2 r1 r2 q2) fun d s3 ⟨z,H3,I3,r3,k,e,q3⟩ => ?_)) hm
 subst e
 cases r3
 refine wpAny_truthy_bool ?_
 cases k with
 | false =>
   obtain ⟨k',e',q'⟩ := q3
   cases e'
   exact ite_ff ⟨H3,I3,q'⟩
 | true =>
   refine ite_tt (test_last (thn (hc pins s3 σ H3 _ I3 q3) fun w' s4 ⟨z',H4,I4,r4,q4⟩ => thn (ho' pins s4 σ H4 y z' u w' _ I4 r2 r4 q4) fun d' s5 ⟨z2,H5,I5,r5,k2,e2,q5⟩ => ?_))
   subst e2
   cases r5
   exact wpAny_truthy_bool ⟨H5,I5,q5⟩
def TruV (K:PySem.W.Frag) (x:V) (H:Hp) (k:Bool):Prop :=
 match x with
 | .non => k = false
 | .bl b => k = b
 | .int i => k = (i != 0)
 | .str y => y.length <= sizeLine /\ k = ((y.length:Int) != 0)
 | .byt y => y.size <= sizeLine /\ k = ((y.size:Int) != 0)
 | .ref p => (∃ xs,SqL K H p xs /\ k = !xs.isEmpty) \/ (∃ xs,SqT K H p xs /\ k = !xs.isEmpty) \/ ∃ kvs,H p = some (.dK kvs) /\ k = !kvs.isEmpty
 | _ => False
theorem XT {κ:Type} {kvs:List (κ × V)} {vs:List (κ × Value)} (r:KV kvs vs):(!vs.isEmpty) = !kvs.isEmpty := by
 cases r <;> rfl
theorem jH {xs:List V} {its:List Value} (r:Vals xs its):(!its.toArray.isEmpty) = !xs.isEmpty := by
 cases r <;> simp
theorem xX:(sizeLine:Nat) < 2 ^ 63 := by rw [sizeLine_eq]; decide
theorem zaZ:TruR X (fun x H Q => ∃ k,TruV X.K x H k /\ Q k H) := by
 intro pins s σ H x v Q I rx h
 obtain ⟨k,e,q⟩ := h
 have hl := xX
 have hs:sizeLine = 16777216 := sizeLine_eq
 cases x with
 | non =>
   cases rx
   have e':k = false := e
   subst e'
   exact truthy_none ⟨H,I,q⟩
 | bl b =>
   cases rx
   have e':k = b := e
   subst e'
   exact wpAny_truthy_bool ⟨H,I,q⟩
 | int i =>
   obtain ⟨t,rfl⟩ := rx
   have e':k = (i != 0) := e
   subst e'
   exact PySem.P.truthy_int ⟨H,I,q⟩
 | str y =>
   obtain ⟨t,rfl⟩ := rx
   obtain ⟨hy,e'⟩ : y.length <= sizeLine /\ k = ((y.length:Int) != 0) := e
   subst e'
   exact PySem.P.truthy_str (by omega) ⟨H,I.tok _,q⟩
 | byt y =>
   obtain ⟨t,rfl⟩ := rx
   obtain ⟨hy,e'⟩ : y.size <= sizeLine /\ k = ((y.size:Int) != 0) := e
   subst e'
   exact PySem.W.truthy_bytes (by omega) ⟨H,I.tok _,q⟩
 | ref p =>
   cases rx
   have e':(∃ xs,SqL X.K H p xs /\ k = !xs.isEmpty) \/ (∃ xs,SqT X.K H p xs /\ k = !xs.isEmpty) \/ ∃ kvs,H p = some (.dK kvs) /\ k = !kvs.isEmpty := e
   rcases e' with ⟨xs,hx,e'⟩ | ⟨xs,hx,e'⟩ | ⟨kvs,hx,e'⟩
   · subst e'
     obtain ⟨its,r,pl,hz⟩ := I.list hx
     have hlen := r.length
     exact wpAny_truthy_list pl.isList (by simp only [List.size_toArray]; omega) ⟨H,I.tok _,by rw [jH r]; exact q⟩
   · subst e'
     obtain ⟨its,r,pl,hz⟩ := I.tuple hx
     have hlen := r.length
     exact truthy_tuple pl (by simp only [List.size_toArray]; omega) ⟨H,I.tok _,by rw [jH r]; exact q⟩
   · subst e'
     obtain ⟨hz,hS,vs,r,m⟩ : kvs.length <= sizeLine /\ (p == sysModules) = false /\ ∃ vs,KV kvs vs /\ s.heap.DictOf (j2 X.prog X.w) p vs := I.hok p _ hx
     have hlen:kvs.length = vs.length := Paired.length r
     exact wpAny_truthy_dict hS m (by omega) ⟨H,I.tok _,by rw [XT r]; exact q⟩
 | _ => exact (show False from e).elim
theorem jk (ha:PE X a ta) (he:∀ whole,isTrue a X.env whole = (do let v <- whole; standAt a.pos; holding [v] (truthy v))) :
   PT X a (fun σ H Q => ta σ H fun x H' => ∃ k,TruV X.K x H' k /\ Q k H') := by
 intro pins s σ H Q I h
 exact isTrue_plain (thn (ha pins s σ H _ I h) fun v s1 ⟨x,H1,I1,r1,q1⟩ => zaZ pins s1 σ H1 x v Q I1 r1 q1) (he _)
theorem xw:OpR X (binaryOp .Add) (fun x y H Q => ∃ i j,x = .str i /\ y = .str j /\ i.length + j.length <= sizeLine /\ Q (.str (i ++ j)) H) := by
 intro pins s σ H x y v u Q I rx ry h
 obtain ⟨i,j,rfl,rfl,hz,q⟩ := h
 obtain ⟨t,rfl⟩ := rx
 obtain ⟨t',rfl⟩ := ry
 exact add_str (fun t' tk => ⟨.str (i ++ j),H,I.tok _,⟨_,rfl⟩,q⟩) hz
theorem vals1 {x:V} {us:List Value} (r:Vals [x] us):∃ u,us = [u] /\ RelV x u := by
 cases r with
 | cons r1 r2 => cases r2; exact ⟨_,rfl,r1⟩
theorem vals2 {x y:V} {us:List Value} (r:Vals [x,y] us):∃ u w',us = [u,w'] /\ RelV x u /\ RelV y w' := by
 cases r with
 | cons r1 r2 =>
   cases r2 with
   | cons r3 r4 => cases r4; exact ⟨_,_,rfl,r1,r3⟩
theorem qi (hc:X.calm = true):yx X (.builtin "max") (fun xs H Q => ∃ i j,xs = [.int i,.int j] /\ Q (.int (if j > i then j else i)) H) := by
 intro pins s σ H xs us Q I r h
 obtain ⟨i,j,rfl,q⟩ := h
 obtain ⟨u,w',rfl,⟨t,rfl⟩,⟨t',rfl⟩⟩ := vals2 r
 refine max_two_ints (I.ok.hd hc) fun h' tk k => ⟨_,H,I.kept k,?_,q⟩
 by_cases hj:j > i
 · rw [if_pos hj,if_pos hj]; exact ⟨_,rfl⟩
 · rw [if_neg hj,if_neg hj]; exact ⟨_,rfl⟩
theorem Wx (hc:X.calm = true):yx X (.builtin "min") (fun xs H Q => ∃ i j,xs = [.int i,.int j] /\ Q (.int (if j < i then j else i)) H) := by
 intro pins s σ H xs us Q I r h
 obtain ⟨i,j,rfl,q⟩ := h
 obtain ⟨u,w',rfl,⟨t,rfl⟩,⟨t',rfl⟩⟩ := vals2 r
 refine min_two_ints (I.ok.hd hc) fun h' tk k => ⟨_,H,I.kept k,?_,q⟩
 by_cases hj:j < i
 · rw [if_pos hj,if_pos hj]; exact ⟨_,rfl⟩
 · rw [if_neg hj,if_neg hj]; exact ⟨_,rfl⟩
theorem QO:yx X (.builtin "ord") (fun xs H Q => ∃ x,xs = [.str x] /\ x.length = 1 /\ Q (.int (x.cps.getD 0 0:Nat)) H) := by
 intro pins s σ H xs us Q I r h
 obtain ⟨x,rfl,hz,q⟩ := h
 obtain ⟨u,rfl,t,rfl⟩ := vals1 r
 exact ord_of_one hz ⟨.int _,H,I.tok _,⟨_,rfl⟩,q⟩
end
end L2
namespace L2
open PySem PySem.Spec PyProof.Rows
structure ObjM (h:Heap) (x dx C:Addr) (mA:Str -> Option Value):Prop where
 obj:h.get? x = some (PySem.W.instObj C dx)
 ns:h.Ns1 dx mA
 ne:dx ≠ x
theorem Wy {h:Heap} {dx:Addr} {mA:Str -> Option Value} (n:h.Ns1 dx mA):∃ od,h.get? dx = some od /\ ∀ name,PySem.W.lookIn name od = some (mA name) := by
 obtain ⟨o,es,ep,ho,hd,hk,_,hm⟩ := n
 refine ⟨o,ho,fun name => ?_⟩
 have e := hm name
 unfold nsFind findBy at e
 rw [<- Array.find?_toList] at e
 unfold PySem.W.lookIn
 rw [hd]
 dsimp only
 split
 · rename_i y q
   rw [q] at e
   exact congrArg some e
 · rename_i q
   rw [q] at e
   have a:es.toList.any (·.refKey) = false := by
     rw [List.any_eq_false]
     intro y hy
     obtain ⟨z,t,hkey⟩ := hk y (Array.mem_toList_iff.mp hy)
     simp [DictEntry.refKey,hkey]
   have a':¬ es.toList.any (·.refKey) = true := by rw [a]; exact Bool.false_ne_true
   rw [if_neg a']
   exact congrArg some e
theorem ObjM.look {h:Heap} {x dx C:Addr} {mA:Str -> Option Value} (I:ObjM h x dx C mA):∃ od,PySem.W.InstAt h x (PySem.W.instObj C dx) C (some od) /\ ∀ name,PySem.W.lookIn name od = some (mA name) :=
 let ⟨od,ho,hl⟩ := Wy I.ns
 ⟨od,⟨I.obj,rfl,rfl,ho⟩,hl⟩
section
variable {P:Program} {w:World} {H H':Hp} {h h':Heap} {a C dx:Addr} {fs fs':List (Str × V)}
theorem JQ (hok:HOk P w H h) (e:H a = some (.ins C dx fs)):∃ mA,ObjM h a dx C mA /\ (∀ f,RelO (fs.lookup f) (mA f)) /\ PySem.Within mA (fs.map (·.1)) /\ fs.length <= 1000 /\ H dx = some (.own a) := by
 obtain ⟨d,z,ne,ob,mA,n,r,q⟩ := (show yj P w H h a (.ins C dx fs) from hok a _ e)
 exact ⟨mA,⟨ob,n,ne⟩,r,q,z,d⟩
end
structure Cls (K:PySem.W.Frag) (C:Addr):Prop where
 pg:PySem.W.plainGet K C Str.empty = true
 hd:PySem.W.hasDictIn K C = true
 po:PySem.W.plainOver K C = true
 sa:PySem.W.findIn K (.ref C) "__setattr__" = some (some (.builtin "object.__setattr__"))
theorem Cls.get {K:PySem.W.Frag} {C:Addr} (c:Cls K C) (f:Str):PySem.W.plainGet K C f = true := c.pg
section
variable {X:Cx} {pins:List (Addr × Obj)} {σ:St} {H:Hp} {s:Shared} {A:Around} {E:Value -> Shared -> Prop} {Q:Value -> Shared -> Prop} {c:Value} {b:Bool}
inductive TyOf (K:PySem.W.Frag) (H:Hp):V -> Value -> Prop where
 | non:TyOf K H .non (.type "NoneType")
 | bl (x:Bool):TyOf K H (.bl x) (.type "bool")
 | int (i:Int):TyOf K H (.int i) (.type "int")
 | str (x:Str):TyOf K H (.str x) (.type "str")
 | flt (x:UInt64):TyOf K H (.flt x) (.type "float")
 | lst {a:Addr} {xs:List V} (e:H a = some (.lst xs)):TyOf K H (.ref a) (.type "list")
 | frz {a:Addr} {o:Obj} {xs:List V} (e:H a = some (.frz o (.lst xs))):TyOf K H (.ref a) (.type "list")
 | tup {a:Addr} {xs:List V} (e:H a = some (.tup xs)):TyOf K H (.ref a) (.type "tuple")
 | dK {a:Addr} {kvs:List (Key × V)} (e:H a = some (.dK kvs)):TyOf K H (.ref a) (.type "dict")
 | dT {a:Addr} {kvs:List (List Key × V)} (e:H a = some (.dT kvs)):TyOf K H (.ref a) (.type "dict")
 | ins {a C dx:Addr} {fs:List (Str × V)} (e:H a = some (.ins C dx fs)) (cl:Cls K C) (ha:PySem.W.findIn K (.ref C) "__class__" = some (some (.builtin "object.__class__")))
     (hn:PySem.W.specialIn K (.builtin "object.__class__") "__get__" = some (some (.builtin "getset_descriptor.__get__"))) (htk:PySem.W.takesIn K (.builtin "object.__class__") = some true)
     (hm:PySem.W.mroIn K C (.type "object") = some true):TyOf K H (.ref a) (.ref C)
end
end L2
namespace L2
open PySem PySem.Spec PyProof.Rows
structure Room (k:Nat) (A:Around):Prop where
 hd:A.handled = none
 dp:A.depth + 3 * k + 5 < recursionLimit
 un:A.units + 16 * k + 200 < cLine
theorem Room.mono {j k:Nat} {A:Around} (r:Room k A) (h:j <= k):Room j A := ⟨r.hd,by have := r.dp; omega,by have := r.un; omega⟩
theorem Room.deeper {k:Nat} {A:Around} (r:Room (k + 1) A) (env:Env):Room k (A.deeper env) :=
 ⟨r.hd,by have := r.dp; show A.depth + 1 + 3 * k + 5 < _; omega,by have := r.un; show A.units + 3 + 16 * k + 200 < _; omega⟩
theorem Room.depth {k:Nat} {A:Around} (r:Room k A):A.depth < recursionLimit := by have := r.dp; omega
theorem Room.units {k:Nat} {A:Around} (r:Room k A):A.units + 64 < cLine := by have := r.un; omega
def tNil:TA := fun _ H Q => Q [] H
def xi (ta:TE) (tr:TA):TA := fun σ H Q => ta σ H fun x H1 => tr σ H1 fun xs H2 => Q (x :: xs) H2
section
variable {X:Cx} {e:Expr} {es:List Expr} {te:TE} {t:TA} {pos:Pos}
theorem zb:PA X [] tNil := fun _ _ _ _ H Q I h => Calls.spliced_nil ⟨[],H,I,.nil,h⟩
theorem za (ha:PE X e te) (hr:PA X es t) (hs:starEach (e :: es) X.env = (false,eval e X.env) :: starEach es X.env := by rfl):PA X (e :: es) (xi te t) := by
 intro pos pins s σ H Q I h
 rw [hs]
 show wpAny _ _ (spliced ((false,eval e X.env) :: backTo pos (starEach es X.env))) _ _ s
 refine Calls.spliced_cons (thn (ha pins s σ H _ I h) fun u s1 ⟨x,H1,I1,r1,q1⟩ => ?_)
 exact thn (hr pos pins s1 σ H1 _ I1 q1) fun us s2 ⟨xs,H2,I2,r2,q2⟩ => ⟨x :: xs,H2,I2,.cons r1 r2,q2⟩
def tTup (t:TA):TE := fun σ H Q => t σ H fun xs H1 => xs.length <= sizeLine /\ ∀ p,H1 p = none -> Q (.ref p) (upd H1 p (.tup xs))
def tLst (t:TA):TE := fun σ H Q => t σ H fun xs H1 => xs.length <= sizeLine /\ ∀ p,H1 p = none -> Q (.ref p) (upd H1 p (.lst xs))
theorem yK {x1} (h:PA X es t):PE X (.Tuple es x1 pos) (tTup t) := by
 intro pins s σ H Q I hq
 refine wpAny_Tuple_spliced (thn (h pos pins s σ H _ I hq) fun us s1 ⟨xs,H1,I1,r,z,q⟩ => ⟨by rw [<- r.length]; exact z,?_⟩)
 have hf:H1 s1.heap.objs.size = none := I1.hok.fresh (Nat.le_refl _)
 refine ⟨.ref s1.heap.objs.size,upd H1 s1.heap.objs.size (.tup xs),I1.laid (t' := s1.toks) (fun b u e => Heap.get?_push_of_some _ e) (Nat.le_refl _) ?_,rfl,q _ hf⟩
 exact ⟨z,us,r,⟨_,Heap.get?_push_size _ rfl,rfl,_,rfl⟩⟩
theorem zV (h:PA X es t):PE X (.List es pos) (tLst t) := by
 intro pins s σ H Q I hq
 refine wpAny_List_spliced (thn (h pos pins s σ H _ I hq) fun us s1 ⟨xs,H1,I1,r,z,q⟩ => ⟨by rw [<- r.length]; exact z,?_⟩)
 have hf:H1 s1.heap.objs.size = none := I1.hok.fresh (Nat.le_refl _)
 refine ⟨.ref s1.heap.objs.size,upd H1 s1.heap.objs.size (.lst xs),I1.laid (t' := s1.toks) (fun b u e => Heap.get?_push_of_some _ e) (Nat.le_refl _) ?_,rfl,q _ hf⟩
 exact ⟨z,us,0,r,Heap.get?_push_size _ rfl⟩
end
abbrev Sp := List V -> Hp -> VK -> XK -> Prop
abbrev CXT := List Env -> Hp -> Shared -> XK -> Value -> Shared -> Prop
structure Env0 (P:Program) (w:World) (K:PySem.W.Frag) (mg:Str -> Option Value) (base:Heap) (A:Around) (outer:List Env) (s:Shared) (H:Hp):Prop where
 frames:A.frames = some outer
 mod:Mod K mg base
 bs:∀ b o,base.get? b = some o -> s.heap.get? b = some o /\ H b = none
 bsz:base.objs.size <= s.heap.objs.size
 funs:s.heap.FunFrames base outer
 frf:∀ b ∈ frs outer,H b = none
 hok:HOk P w H s.heap
 bare:AllBare s.gens
def CE (outer:List Env) (P:Program) (w:World) (H:Hp) (s:Shared) (Q:VK) (u:Value) (s':Shared):Prop :=
 ∃ v H',s'.os = s.os /\ AllBare s'.gens /\ Un (frs outer) [] H H' s.heap s'.heap /\ HOk P w H' s'.heap /\ RelV v u /\ Q v H'
def CR (CX:CXT) (outer:List Env) (P:Program) (w:World) (H:Hp) (s:Shared) (Q:VK) (E:XK) (r:Result) (s':Shared):Prop :=
 match r with
 | .ok (.ret u) => CE outer P w H s Q u s'
 | .ok _ => False
 | .error e => CX outer H s E e s'
structure FnOk (P:Program) (w:World) (K:PySem.W.Frag) (mg:Str -> Option Value) (base:Heap) (CX:CXT) (k:Nat) (f:Addr) (fd:FuncData) (ps:List Str) (sp:Sp):Prop where
 len:∀ vs H Q E,sp vs H Q E -> vs.length = ps.length
 run:∀ (A:Around) (outer:List Env) (s:Shared) (H:Hp) (args:Args) (us:List Value) (vs:List V) (Q:VK) (E:XK),Room k A -> Env0 P w K mg base A outer s H -> BindsTo s fd args (ps.zip us) -> Vals vs us -> sp vs H Q E ->
   codeAny (model P w) A (.call (.ref f) args) (CR CX outer P w H s Q E) s
section
variable {X:Cx} {pins:List (Addr × Obj)} {σ:St} {H:Hp} {s s':Shared}
theorem Inv.env0 (I:Inv X pins σ H s):Env0 X.prog X.w X.K X.mg X.base X.A X.stack s H :=
 ⟨I.ok.frames,I.ok.mod,I.bs,Nat.le_trans I.ok.bsz I.sz,I.stack,I.stkFree,I.hok,I.bare⟩
theorem Inv.after {Q:VK} {u:Value} (I:Inv X pins σ H s) (h:CE X.stack X.prog X.w H s Q u s'):EP X pins σ Q u s' := by
 obtain ⟨v,H',os,bare,un,hok,r,q⟩ := h
 obtain ⟨hh,g,d,t,os'⟩ := s'
 obtain rfl:os' = s.os := os
 exact ⟨v,H',I.call (h' := hh) (g' := g) (d' := d) (t' := t) (ch := []) un hok bare (fun b z => absurd z (by simp)),r,q⟩
end
def zbU (sp:Sp) (dvs:List V) (E:XK) (t:TA):TE := fun σ H Q => t σ H fun vs H1 => sp (vs ++ dvs) H1 Q E
def Binds (K:PySem.W.Frag) (fd:FuncData) (ps:List Str) (ds:List Value):Prop :=
 ∀ (s:Shared) (us:List Value),K.In s.heap -> (us ++ ds).length = ps.length -> BindsTo s fd ⟨us,[]⟩ (ps.zip (us ++ ds))
theorem Binds.all {K:PySem.W.Frag} {fd:FuncData} {ps:List Str} (h:∀ us:List Value,us.length = ps.length -> bindArgs fd ⟨us,[]⟩ = pure (ps.zip us)):Binds K fd ps [] := fun s us _ hl => by
 rw [List.append_nil] at hl ⊢
 exact .of_eq (h us hl)
def qj (CX:CXT) (X:Cx) (E:XK):Prop := ∀ (pins:List (Addr × Obj)) (σ:St) (H:Hp) (s:Shared) (e:Value) (s':Shared),Inv X pins σ H s -> CX X.stack H s E e s' -> X.xe e s'
section
variable {X:Cx} {CX:CXT} {k:Nat} {f C:Addr} {fd:FuncData} {ps:List Str} {sp:Sp} {dvs:List V} {ds:List Value} {E:XK} {x m:Str} {p pos apos:Pos} {e o:Expr} {es:List Expr} {ta:TE} {t:TA}
theorem za0 {pins:List (Addr × Obj)} {σ:St} {H:Hp} {s:Shared} {Q:VK} {us:List Value} {vs:List V} (F:FnOk X.prog X.w X.K X.mg X.base CX k f fd ps sp) (hr:Room k X.A) (hb:Binds X.K fd ps ds) (hd:Vals dvs ds) (hx:qj CX X E)
   (I:Inv X pins σ H s) (r:Vals vs us) (h:sp (vs ++ dvs) H Q E):wpAny (model X.prog X.w) X.A (call (.ref f) us) (EP X pins σ Q) X.xe s := by
 have r2:Vals (vs ++ dvs) (us ++ ds) := r.append hd
 have hl:(us ++ ds).length = ps.length := by rw [<- r2.length]; exact F.len _ _ _ _ h
 refine wpAny_call (codeAny_mono (F.run X.A X.stack s H ⟨us,[]⟩ (us ++ ds) (vs ++ dvs) Q E hr I.env0 (hb s us I.kIn hl) r2 h) fun r s' hq => ?_)
 cases r with
 | error e => exact hx pins σ H s e s' I hq
 | ok fl =>
   cases fl with
   | ret u => exact I.after hq
   | next => exact False.elim hq
   | brk => exact False.elim hq
   | cont => exact False.elim hq
theorem zj (F:FnOk X.prog X.w X.K X.mg X.base CX k f fd ps sp) (hr:Room k X.A) (hg:Gl X x) (hm:X.mg x = some (.ref f)) (hk:PySem.W.keepIn X.K (.ref f) = true) (hb:Binds X.K fd ps ds) (hd:Vals dvs ds) (hx:qj CX X E)
   (ha:PA X (e :: es) t) (hdb:(x == ("__debug__" : Str)) = false := by decide) (he:starEach (e :: es) X.env = (false,eval e X.env) :: starEach es X.env := by rfl) (hpl:(backTo pos (starEach es X.env)).any (·.1) = false := by rfl) :
   PE X (.Call (.Name x p) (e :: es) [] pos) (zbU sp dvs E t) := by
 intro pins s σ H Q I h
 refine wpAny_Call_Name_kw (j3 I hg hm ?_ hdb)
 refine PySem.W.callWith_K (h₀ := X.base) I.ok.mod.kin hk (thn (ha pos pins s σ H _ I h) fun us s1 ⟨vs,H1,I1,r,q⟩ => ⟨I1.kIn,?_⟩) he hpl
 exact za0 F hr hb hd hx I1 r q
end
def PK (X:Cx) (kws:List Keyword) (t:TA):Prop :=
 ∀ (pos:Pos) (pins:List (Addr × Obj)) (s:Shared) (σ:St) (H:Hp) (Q:List V -> Hp -> Prop),Inv X pins σ H s -> t σ H Q -> wpAny (model X.prog X.w) X.A (evalAll ((backToKw pos (keywordEach kws X.env)).map (·.2))) (AP X pins σ Q) X.xe s
section
variable {X:Cx} {CX:CXT} {k:Nat} {f C:Addr} {fd:FuncData} {ps ks:List Str} {sp:Sp} {E:XK} {x m:Str} {p pos apos kpos:Pos} {e o:Expr} {es:List Expr} {kws:List Keyword} {te ta:TE} {t tk:TA} {nm:Option Str}
theorem Wz:PK X [] tNil := fun _ _ _ _ H Q I h => wpAny_evalAll_nil ⟨[],H,I,.nil,h⟩
theorem Xu (ha:PE X e te) (hr:PK X kws t):PK X (⟨nm,e,kpos⟩ :: kws) (xi te t) := by
 intro pos pins s σ H Q I h
 show wpAny _ _ (evalAll ((do let v <- eval e X.env; standAt pos; pure v) :: (backToKw pos (keywordEach kws X.env)).map (·.2))) _ _ s
 refine wpAny_evalAll_cons (wpAny_bind (thn (ha pins s σ H _ I h) fun u s1 ⟨x,H1,I1,r1,q1⟩ => wpAny_bind (wpAny_standAt (wpAny_pure ?_))))
 exact thn (hr pos pins s1 σ H1 _ I1 q1) fun us s2 ⟨xs,H2,I2,r2,q2⟩ => ⟨x :: xs,H2,I2,.cons r1 r2,q2⟩
end
structure zu (N P:List Str) (sc:Scope):Prop where
 kind:sc.kind = .function
 co:sc.isCoroutine = false
 gen:sc.isGenerator = false
 nd:N.Nodup
 pre:N.take P.length = P
 par:∀ x ∈ P,sc.names.lookup x = some .local \/ sc.names.lookup x = some .cell
 nofree:∀ y ∈ sc.names,y.2 ≠ .free
theorem Zu {kindOf:Str -> Option NameKind} {x:Str}:∀ {binds:List (Str × Value)} {m:Str -> Option Value},(∀ v,(x,v) ∉ binds) -> bindL kindOf binds m x = m x
 | [],_,_ => rfl
 | (n,v) :: r,m,h => by
   unfold bindL
   rw [Zu fun w hw => h w (List.mem_cons_of_mem _ hw)]
   split
   · have:x ≠ n := by rintro rfl; exact h v List.mem_cons_self
     simp [this]
   · rfl
theorem Zv {kindOf:Str -> Option NameKind} {x:Str}:∀ {binds:List (Str × Value)} {m:Str -> Option Value},(∀ v,(x,v) ∉ binds) -> bindC kindOf binds m x = m x
 | [],_,_ => rfl
 | (n,v) :: r,m,h => by
   unfold bindC
   rw [Zv fun w hw => h w (List.mem_cons_of_mem _ hw)]
   split
   · rfl
   · have:x ≠ n := by rintro rfl; exact h v List.mem_cons_self
     simp [this]
theorem Zw {kindOf:Str -> Option NameKind} {x:Str} {v:Value}:∀ {P:List Str} {vs:List Value} {i:Nat} {m:Str -> Option Value},P.Nodup -> P[i]? = some x -> vs[i]? = some v -> kindOf x = some .local ->
   bindL kindOf (P.zip vs) m x = some v
 | [],_,_,_,_,h,_,_ => by simp at h
 | _ :: _,[],_,_,_,_,h,_ => by simp at h
 | p :: P,w :: vs,0,m,nd,h1,h2,hk => by
   simp at h1 h2; subst h1; subst h2
   show bindL kindOf ((p,w) :: P.zip vs) m p = _
   unfold bindL
   rw [Zu fun v hv => (List.nodup_cons.mp nd).1 (List.of_mem_zip hv).1,if_pos hk]
   simp
 | p :: P,w :: vs,i + 1,m,nd,h1,h2,hk => by
   show bindL kindOf ((p,w) :: P.zip vs) m x = _
   unfold bindL
   exact Zw (i := i) (List.nodup_cons.mp nd).2 (by simpa using h1) (by simpa using h2) hk
theorem Zx {kindOf:Str -> Option NameKind} {x:Str} {v:Value}:∀ {P:List Str} {vs:List Value} {i:Nat} {m:Str -> Option Value},P.Nodup -> P[i]? = some x -> vs[i]? = some v -> kindOf x ≠ some .local ->
   bindC kindOf (P.zip vs) m x = some v
 | [],_,_,_,_,h,_,_ => by simp at h
 | _ :: _,[],_,_,_,_,h,_ => by simp at h
 | p :: P,w :: vs,0,m,nd,h1,h2,hk => by
   simp at h1 h2; subst h1; subst h2
   show bindC kindOf ((p,w) :: P.zip vs) m p = _
   unfold bindC
   rw [Zv fun v hv => (List.nodup_cons.mp nd).1 (List.of_mem_zip hv).1,if_neg hk]
   simp
 | p :: P,w :: vs,i + 1,m,nd,h1,h2,hk => by
   show bindC kindOf ((p,w) :: P.zip vs) m x = _
   unfold bindC
   exact Zx (i := i) (List.nodup_cons.mp nd).2 (by simpa using h1) (by simpa using h2) hk
def start (N:List Str) (vs:List V):St := vs.map some ++ List.replicate (N.length - vs.length) none
def cxOf (CX:CXT) (P:Program) (w:World) (K:PySem.W.Frag) (mg:Str -> Option Value) (base:Heap) (N:List Str) (qual:Str) (scope:Scope) (f:Addr) (cd:Value) (A:Around) (outer:List Env) (s:Shared) (H:Hp) (E:XK):Cx where
 prog := P
 w := w
 K := K
 mg := mg
 base := base
 A := A.deeper (envOfC qual scope s.heap.objs.size f cd)
 N := N
 s₀ := s
 H₀ := H
 env := envOfC qual scope s.heap.objs.size f cd
 outer := outer
 stack := envOfC qual scope s.heap.objs.size f cd :: outer
 ex := []
 calm := true
 fn := fun _ => true
 pn := []
 xe := fun e s' => wpAny (model P w) (A.deeper (envOfC qual scope s.heap.objs.size f cd)) (leaving (envOfC qual scope s.heap.objs.size f cd) e) (fun _ s'' => CX outer H s E e s'') (fun e' s'' => CX outer H s E e' s'') s'
theorem Yj {sc:Scope} {n:Nat} {x:Str} (h:sc.names.lookup x = some .cell):∃ c,(cellsFrom n sc.names []).lookup x = some c := by
 have q := PySem.W.cellsFrom_some sc.names n [] (.inl h)
 exact Option.isSome_iff_exists.mp q
theorem WA {CX:CXT} {P:Program} {w:World} {K:PySem.W.Frag} {mg:Str -> Option Value} {base:Heap} {N ps:List Str} {qual:Str} {scope:Scope} {f:Addr} {cd:Value} {A:Around} {outer:List Env} {s s1:Shared} {H:Hp} {E:XK} {us:List Value} {vs:List V}
   (S:zu N ps scope) (hd:A.handled = none) (e0:Env0 P w K mg base A outer s H) (hl:vs.length = ps.length) (r:Vals vs us)
   (x:InCallC s s.heap.objs.size (bindL (envOfC qual scope s.heap.objs.size f cd).kindOf (ps.zip us) fun _ => none) (cellsFrom (s.heap.objs.size + 1) scope.names []) (bindC (envOfC qual scope s.heap.objs.size f cd).kindOf (ps.zip us) fun _ => none) s1) :
   Inv (cxOf CX P w K mg base N qual scope f cd A outer s H E) [] (start N vs) H s1 := by
 have hpl:ps.length <= N.length := by have := congrArg List.length S.pre; rw [List.length_take] at this; omega
 obtain ⟨h1,tk,rfl,hk⟩ := x.done
 have noA:∀ b:Addr,b ∉ (cxOf CX P w K mg base N qual scope f cd A outer s H E).ex := fun b z => absurd (show b ∈ ([]:List Addr) from z) (by simp)
 refine ⟨⟨e0.mod,S.kind,rfl,rfl,Nat.le_refl _,fun y z c h1 h2 => ?_,fun y hy => ?_,fun y c _ h => ?_,fun _ => hd,Around.frames_deeper e0.frames,.inr ⟨rfl,rfl⟩,fun b z => absurd z (noA b),e0.bs,e0.bsz,fun b _ _ => noA b,fun b z => absurd z (noA b),e0.funs,e0.frf⟩,
   rfl,e0.bare,Un.kept hk,⟨_,x.toInCall.ns,fun i y v h1 h2 h3 => ?_⟩,fun y c h => ⟨_,x.cell y c h⟩,e0.hok.fresh (Nat.le_refl _),fun y c h => ?_,fun p hp => absurd (show p ∈ ([]:List (Addr × Obj)) from hp) (by simp),e0.hok.kept hk,?_⟩
 · exact name_of_addr x.apart (PySem.mem_of_lookup h1) (PySem.mem_of_lookup h2)
 · have hy:scope.names.lookup y = some .cell \/ scope.names.lookup y = some .free := hy
   rcases hy with hy | hy
   · exact Yj hy
   · exact absurd rfl (S.nofree _ (PySem.mem_of_lookup hy))
 · exact Nat.le_of_lt (x.above y c (PySem.mem_of_lookup h))
 · have hi:i < vs.length := by
     unfold start at h2
     by_cases hi:i < vs.length
     · exact hi
     · rw [List.getElem?_append_right (by simpa using hi)] at h2
       rw [List.getElem?_replicate] at h2
       split at h2 <;> cases h2
   have ha:vs[i]? = some v := by
     unfold start at h2
     rw [List.getElem?_append_left (by simpa using hi),List.getElem?_map] at h2
     cases e:vs[i]? with
     | none => rw [e] at h2; cases h2
     | some a => rw [e] at h2; cases h2; rfl
   obtain ⟨u,hu,rv⟩ := r.get ha
   have hp:ps[i]? = some y := by
     rw [<- S.pre,List.getElem?_take_of_lt (by omega)]; exact h1
   have ndP:ps.Nodup := by rw [<- S.pre]; exact S.nd.sublist (List.take_sublist _ _)
   refine ⟨u,rv,?_⟩
   rcases S.par y (List.mem_of_getElem? hp) with k | k
   · exact .inl ⟨k,Zw ndP hp hu k⟩
   · obtain ⟨c,e⟩ := Yj (n := s.heap.objs.size + 1) k
     refine .inr ⟨.inl k,c,e,?_⟩
     have q := x.cell y c e
     rw [Zx ndP hp hu (by show scope.names.lookup y ≠ _; rw [k]; decide)] at q
     exact q
 · exact e0.hok.fresh (Nat.le_of_lt (x.above y c (PySem.mem_of_lookup h)))
 · unfold start
   show _ = N.length
   rw [List.length_append,List.length_map,List.length_replicate]
   omega
theorem JA {CX:CXT} {P:Program} {w:World} {K:PySem.W.Frag} {mg:Str -> Option Value} {base:Heap} {k:Nat} {f:Addr} {name qual:Str} {params:Arguments} {body:List Stmt} {scope:Scope} {dV kV doc pm cdv ct oc:Value} {an od:Option Addr}
   {osl:Array (Option Value)} {N ps:List Str} {sp:Sp} (lk:K.lookup f = some ⟨oc,od,.func (PySem.W.fnOf name qual params body scope dV kV doc pm an cdv ct),osl⟩) (hcd:PySem.W.codeIn K cdv qual = true) (S:zu N ps scope)
   (len:∀ vs H Q E,sp vs H Q E -> vs.length = ps.length)
   (hbody:∀ (A:Around) (outer:List Env) (s:Shared) (H:Hp) (vs:List V) (Q:VK) (E:XK),Room k (A.deeper (envOfC qual scope s.heap.objs.size f cdv)) -> sp vs H Q E ->
     ∃ t,PSs (cxOf CX P w K mg base N qual scope f cdv A outer s H E) body t /\ t { nx := fun _ H' => Q .non H',rt := Q } (start N vs) H) :
   FnOk P w K mg base CX (k + 1) f (PySem.W.fnOf name qual params body scope dV kV doc pm an cdv ct) ps sp := by
 refine ⟨len,fun A outer s H args us vs Q E hr e0 hb r hsp => ?_⟩
 have hl := len _ _ _ _ hsp
 have KX:K.In s.heap := e0.mod.kin.keeps fun b o e => (e0.bs b o e).1
 have lim:s.heap.NoLimit := e0.mod.nolimit.keeps fun b o e => (e0.bs b o e).1
 have hkind:∀ y ∈ ps.zip us,scope.names.lookup y.1 = some .local \/ (scope.names.lookup y.1 = some .cell /\ ((cellsFrom (s.heap.objs.size + 1) scope.names []).lookup y.1).isSome = true) := fun ⟨n,v⟩ hy => by
   rcases S.par n (List.of_mem_zip hy).1 with q | q
   · exact .inl q
   · exact .inr ⟨q,PySem.W.cellsFrom_some _ _ _ (.inl q)⟩
 refine codeAny_call_function hr.depth (KX _ _ lk) rfl S.co S.gen rfl (PySem.W.codeRec_of KX hcd) (hb _ _ _ _ ?_)
 refine wpAny_newFunctionEnv_cells S.kind hkind fun env he s1 x => ?_
 subst he
 refine ⟨lim.keeps x.toInCall.keep,codeAny_func ?_⟩
 obtain ⟨t,ht,hq⟩ := hbody A outer s H vs Q E (hr.deeper _) hsp
 have I:Inv (cxOf CX P w K mg base N qual scope f cdv A outer s H E) [] (start N vs) H s1 := WA S hr.hd e0 hl r x
 refine wpAny_mono (ht [] s1 (start N vs) H _ I hq) (fun fl s' hs => ?_) fun e s' hs => hs
 have fin:∀ {σ':St} {H':Hp} {v:V} {u:Value},Inv (cxOf CX P w K mg base N qual scope f cdv A outer s H E) [] σ' H' s' -> RelV v u -> Q v H' -> CE outer P w H s Q u s' :=
   fun {σ' H' v u} J rv q => ⟨v,H',J.os,J.bare,J.base,J.hok,rv,q⟩
 cases fl with
 | ret u =>
   obtain ⟨v,σ',H',J,rv,q⟩ := hs
   exact fin J rv q
 | next =>
   obtain ⟨σ',H',J,q⟩ := hs
   exact fin (v := V.non) (u := Value.none) J rfl q
 | brk =>
   obtain ⟨_,_,_,q⟩ := hs
   exact False.elim q
 | cont =>
   obtain ⟨_,_,_,q⟩ := hs
   exact False.elim q
end L2
namespace L2
open PySem PySem.Spec PyProof.Rows
section
variable {X:Cx} {x:Str} {p pos:Pos} {e:Expr} {es:List Expr} {t:TA} {id T:String} {r:List V -> Hp -> VK -> Prop}
def tCB (r:List V -> Hp -> VK -> Prop) (t:TA):TE := fun σ H Q => t σ H fun vs H1 => r vs H1 Q
theorem zi (hc:yx X (.builtin id) r) (hg:Gl X x) (hm:X.mg x = none) (hv:bootBuiltins x = some (.builtin id)) (ha:PA X (e :: es) t) (hn:x ≠ "__name__" := by decide) (hdb:(x == ("__debug__" : Str)) = false := by decide)
   (he:starEach (e :: es) X.env = (false,eval e X.env) :: starEach es X.env := by rfl) (hpl:(backTo pos (starEach es X.env)).any (·.1) = false := by rfl):PE X (.Call (.Name x p) (e :: es) [] pos) (tCB r t) := by
 intro pins s σ H Q I h
 refine wpAny_Call_Name_kw (yQ I hg hm hv ?_ hn hdb)
 exact PyProof.Rows.callWith_builtin1 (thn (ha pos pins s σ H _ I h) fun us s1 ⟨vs,H1,I1,r1,q1⟩ => hc pins s1 σ H1 vs us Q I1 r1 q1) he hpl
theorem yN (hc:yx X (.type T) r) (hg:Gl X x) (hm:X.mg x = none) (hv:bootBuiltins x = some (.type T)) (ha:PA X (e :: es) t) (hn:x ≠ "__name__" := by decide) (hdb:(x == ("__debug__" : Str)) = false := by decide)
   (he:starEach (e :: es) X.env = (false,eval e X.env) :: starEach es X.env := by rfl) (hpl:(backTo pos (starEach es X.env)).any (·.1) = false := by rfl):PE X (.Call (.Name x p) (e :: es) [] pos) (tCB r t) := by
 intro pins s σ H Q I h
 refine wpAny_Call_Name_kw (yQ I hg hm hv ?_ hn hdb)
 exact PyProof.Rows.callWith_type1 (thn (ha pos pins s σ H _ I h) fun us s1 ⟨vs,H1,I1,r1,q1⟩ => hc pins s1 σ H1 vs us Q I1 r1 q1) he hpl
end
end L2
namespace HT
open PySem PyProof.Rows
section
variable {prog:Program} {w:World} {A:Around} {E:Value -> Shared -> Prop} {s:Shared}
def sIx (n d:Nat):Option Int -> Nat
 | none => d
 | some v => if v < 0 then (v + (n:Int)).toNat else min v.toNat n
theorem xl (n d:Nat):sIx n d none = d := rfl
theorem j7 (n d k:Nat):sIx n d (some (k:Int)) = min k n := by
 show (if (k:Int) < 0 then ((k:Int) + (n:Int)).toNat else min (k:Int).toNat n) = min k n
 rw [if_neg (by omega),Int.toNat_natCast]
theorem Yk (n d:Nat) (hd:d <= n) (o:Option Int):sIx n d o <= n := by
 cases o with
 | none => exact hd
 | some v =>
   show (if v < 0 then (v + (n:Int)).toNat else min v.toNat n) <= n
   by_cases hv:v < 0
   · rw [if_pos hv]; omega
   · rw [if_neg hv]; exact Nat.min_le_right _ _
theorem Xv (v:Int) (n d:Nat):(if v < 0 then max (v + (n:Int)) 0 else min v (n:Int)) = ((sIx n d (some v):Nat):Int) := by
 show (if v < 0 then max (v + (n:Int)) 0 else min v (n:Int)) = (((if v < 0 then (v + (n:Int)).toNat else min v.toNat n):Nat):Int)
 by_cases hv:v < 0
 · simp only [if_pos hv]; omega
 · simp only [if_neg hv]; omega
theorem XU (lo hi:Option Int) (n:Nat):Builtin.Slice.sliceAdjust lo hi 1 (n:Int) = (((sIx n 0 lo:Nat):Int),((sIx n n hi:Nat):Int)) := by
 have h1:¬ ((1:Int) < 0) := by omega
 unfold Builtin.Slice.sliceAdjust
 simp only [h1,if_false]
 refine Prod.ext ?_ ?_
 · cases lo with
   | none => rfl
   | some v => exact Xv v n 0
 · cases hi with
   | none => rfl
   | some v => exact Xv v n n
theorem XV (i j:Nat):Builtin.Slice.slicePlaces (i:Int) (j:Int) 1 = j - i := by
 unfold Builtin.Slice.slicePlaces
 have h1:(1:Int) > 0 := by omega
 simp only [h1,if_true,Int.ediv_one]
 split <;> omega
theorem jI {v:Value} {o:Option Int} {Q:Option Int -> Shared -> Prop} (p:IsPart v o) (h:Q o s):wpAny (model prog w) A (Builtin.Slice.slicePartIndex v) Q E s := by
 cases p with
 | none => exact slicePart_none h
 | int i t => exact slicePart_int h
theorem jl {sl:Addr} {vl vu:Value} {lo hi:Option Int} {n:Nat} {Q:Int × Int × Nat -> Shared -> Prop} (hs:s.heap.IsSliceOf sl vl vu .none) (pl:IsPart vl lo) (pu:IsPart vu hi)
   (h:Q (((sIx n 0 lo:Nat):Int),1,sIx n n hi - sIx n 0 lo) s):wpAny (model prog w) A (Builtin.Slice.sliceApplied (.ref sl) (pure (n:Int))) Q E s := by
 obtain ⟨os,hos,hcs,hds⟩ := id hs
 unfold Builtin.Slice.sliceApplied Builtin.Slice.sliceFields
 refine wpAny_bind (wpAny_bind (wpAny_field hos hds (x := vl) rfl (wpAny_bind (wpAny_field hos hds (x := vu) rfl (wpAny_bind (wpAny_field hos hds (x := .none) rfl (wpAny_pure ?_)))))))
 refine wpAny_bind (slicePart_none ?_)
 show wpAny _ _ (if ((1:Int) == 0) = true then _ else _) _ _ s
 rw [if_neg (by decide)]
 refine wpAny_bind (jI pl (wpAny_bind (jI pu (wpAny_bind (wpAny_pure ?_)))))
 show wpAny _ _ (match Builtin.Slice.sliceAdjust lo hi 1 (n:Int) with | (lo,hi) => pure (lo,(1:Int),Builtin.Slice.slicePlaces lo hi 1)) _ _ s
 rw [XU lo hi n]
 show wpAny _ _ (pure (((sIx n 0 lo:Nat):Int),(1:Int),Builtin.Slice.slicePlaces ((sIx n 0 lo:Nat):Int) ((sIx n n hi:Nat):Int) 1)) _ _ s
 rw [XV]
 exact wpAny_pure h
theorem QP (xs:Array Value) (i k:Nat):((List.range k).filterMap fun (m:Nat) => xs[((i:Int) + (m:Int) * 1).toNat]?).toArray = ((xs.toList.drop i).take k).toArray := by
 have e:(fun (m:Nat) => xs[((i:Int) + (m:Int) * 1).toNat]?) = fun m => xs[i + m]? := by
   funext m
   have:((i:Int) + (m:Int) * 1).toNat = i + m := by omega
   rw [this]
 rw [e]
 have := pick_run xs i k
 rw [List.filterMap_map] at this
 have e2:((fun x => xs[x]?) ∘ fun x => i + x) = fun m => xs[i + m]? := rfl
 rw [e2] at this
 rw [this]
theorem je {t sl:Addr} {items:Array Value} {vl vu:Value} {lo hi:Option Int} {Q:Value -> Shared -> Prop} (ht:IsTup s.heap t items) (hs:s.heap.IsSliceOf sl vl vu .none) (pl:IsPart vl lo) (pu:IsPart vu hi)
   (hw:¬ (sIx items.size 0 lo = 0 /\ sIx items.size items.size hi = items.size))
   (h:Q (.ref s.heap.objs.size) { s with heap := s.heap.push { cls := .type "tuple",data := .seq ((items.toList.drop (sIx items.size 0 lo)).take (sIx items.size items.size hi - sIx items.size 0 lo)).toArray } })
   (hsz:items.size <= sizeLine):wpAny (model prog w) A (getItem (.ref t) (.ref sl)) Q E s := by
 have htake:sizeOk (.seq ((items.toList.drop (sIx items.size 0 lo)).take (sIx items.size items.size hi - sIx items.size 0 lo)).toArray) := by
   show ((items.toList.drop (sIx items.size 0 lo)).take (sIx items.size items.size hi - sIx items.size 0 lo)).toArray.size <= sizeLine
   rw [List.size_toArray,List.length_take,List.length_drop,Array.length_toList]
   omega
 have hj:sIx items.size items.size hi <= items.size := Yk _ _ (Nat.le_refl _) hi
 obtain ⟨os,hos,hcs,hds⟩ := id hs
 have hTs:s.TypeIs (.ref sl) "slice" := ⟨os,hos,hcs⟩
 unfold getItem
 try with_reducible refine wpAny_holding ?_
 first | refine wpAny_bind (wpAny_pure ?_) | skip
 refine wpAny_bind (wpAny_sequenceKey ht.typeIs (by decide) ?_)
 refine wpAny_bind (wpAny_callSpecial?_slot (name := Str.ofString "__getitem__") ht.typeIs PyProof.Rows.slot_tuple_getitem
   (wpAny_call_entry PyProof.Rows.slot_tuple_getitem ht.typeIs entry_tuple_getitem ?_ (args_tuple_getitem _ _)))
 show wpAny _ _ (Builtin.Tuple.tupleItemsOf (.ref t) >>= _) _ _ s
 refine wpAny_bind (tupleItemsOf_ ht ?_)
 refine wpAny_bind (wpAny_typeOf hTs ?_)
 rw [if_pos (by decide)]
 refine wpAny_bind (jl hs pl pu ?_)
 have hno:¬ ((((sIx items.size 0 lo:Nat):Int) == 0 && (1:Int) == 1 && (sIx items.size items.size hi - sIx items.size 0 lo) == items.size) = true) := by
   intro q
   rw [Bool.and_eq_true,Bool.and_eq_true] at q
   have q1:((sIx items.size 0 lo:Nat):Int) = 0 := eq_of_beq q.1.1
   have q2:sIx items.size items.size hi - sIx items.size 0 lo = items.size := eq_of_beq q.2
   exact hw ⟨by omega,by omega⟩
 show wpAny _ _ (if (((sIx items.size 0 lo:Nat):Int) == 0 && (1:Int) == 1 && (sIx items.size items.size hi - sIx items.size 0 lo) == items.size) = true then _ else _) _ _ s
 rw [if_neg hno,QP]
 first
   | exact wpAny_bind (m := Builtin.Tuple.tupleExact _) (wpAny_newObj_type (wpAny_pure ⟨_,rfl,wpAny_pure h⟩) htake)
   | exact wpAny_bind (m := Builtin.Tuple.tupleExact _) (wpAny_newObj_type (wpAny_bind (wpAny_pure (wpAny_pure ⟨_,rfl,wpAny_pure h⟩))) htake)
   | exact wpAny_bind (wpAny_bind (m := Builtin.Tuple.tupleExact _) (wpAny_newObj_type (wpAny_pure (wpAny_pure ⟨_,rfl,wpAny_pure h⟩)) htake))
   | exact wpAny_bind (wpAny_bind (m := Builtin.Tuple.tupleExact _) (wpAny_newObj_type (wpAny_pure ⟨_,rfl,wpAny_pure h⟩) htake))
end
end HT
namespace L2
open PySem PySem.Spec PyProof.Rows
abbrev TO := St -> Hp -> (Option Int -> Hp -> Prop) -> Prop
def PO (X:Cx) (e:Option Expr) (t:TO):Prop :=
 ∀ (pins:List (Addr × Obj)) (s:Shared) (σ:St) (H:Hp) (Q:Option Int -> Hp -> Prop),Inv X pins σ H s -> t σ H Q ->
   wpAny (model X.prog X.w) X.A (evalPart e X.env) (fun u s' => ∃ o H',Inv X pins σ H' s' /\ IsPart u o /\ Q o H') X.xe s
def JR:TO := fun _ H Q => Q none H
def zbV (t:TE):TO := fun σ H Q => t σ H fun x H1 => ∃ i,x = .int i /\ Q (some i) H1
section
variable {X:Cx} {e:Expr} {te:TE} {lo hi:Option Expr} {tl th:TO} {pos p2:Pos}
theorem xb:PO X none JR := by
 intro pins s σ H Q I h
 rw [evalPart_none]
 exact wpAny_pure ⟨none,H,I,.none,h⟩
theorem yL (h:PE X e te):PO X (some e) (zbV te) := by
 intro pins s σ H Q I hw
 rw [evalPart_some]
 refine thn (h pins s σ H _ I hw) fun u s1 ⟨x,H1,I1,r1,q1⟩ => ?_
 obtain ⟨i,rfl,q⟩ := q1
 obtain ⟨t,rfl⟩ := r1
 exact ⟨some i,H1,I1,.int i t,q⟩
def SlR (X:Cx) (r:V -> Option Int -> Option Int -> Hp -> VK -> Prop):Prop :=
 ∀ (pins:List (Addr × Obj)) (s:Shared) (σ:St) (H:Hp) (x:V) (v vl vu:Value) (lo hi:Option Int) (sl:Addr) (Q:VK),Inv X pins σ H s -> RelV x v -> s.heap.IsSliceOf sl vl vu .none -> IsPart vl lo -> IsPart vu hi -> r x lo hi H Q ->
   ∃ T id,typeLookup (.type T) "__getitem__" = pure (some (.builtin id)) /\ s.TypeIs v T /\ wpAny (model X.prog X.w) X.A (getItem v (.ref sl)) (EP X pins σ Q) X.xe s
def tSl (r:V -> Option Int -> Option Int -> Hp -> VK -> Prop) (te:TE) (tl th:TO):TE := fun σ H Q => te σ H fun x H1 => tl σ H1 fun l H2 => th σ H2 fun u H3 => r x l u H3 Q
theorem yG {r:V -> Option Int -> Option Int -> Hp -> VK -> Prop} (hr:SlR X r) (he:PE X e te) (hl:PO X lo tl) (hu:PO X hi th):PE X (.Subscript e (.Slice lo hi none p2) pos) (tSl r te tl th) := by
 intro pins s σ H Q I h
 refine Subscript_ (thn (he pins s σ H _ I h) fun v s1 ⟨x,H1,I1,r1,q1⟩ => ?_)
 refine wpAny_Slice (thn (hl pins s1 σ H1 _ I1 q1) fun vl s2 ⟨l,H2,I2,pl,q2⟩ => thn (hu pins s2 σ H2 _ I2 q2) fun vu s3 ⟨u,H3,I3,pu,q3⟩ => ?_)
 rw [evalPart_none]
 refine wpAny_pure ?_
 have I4:Inv X pins σ H3 { s3 with heap := s3.heap.push { cls := .type "slice",data := .fields #[vl,vu,.none] } } := I3.kept (t' := s3.toks) fun b ob q => Heap.get?_push_of_some _ q
 obtain ⟨T,id,hT,ht,hg⟩ := hr pins { s3 with heap := s3.heap.push { cls := .type "slice",data := .fields #[vl,vu,.none] } } σ H3 x v vl vu l u s3.heap.objs.size Q I4 r1 (Heap.IsSliceOf.new ..) pl pu q3
 show wpAny (model X.prog X.w) X.A (subscriptTail e (.Slice lo hi none p2) v (.ref s3.heap.objs.size)) (EP X pins σ Q) X.xe { s3 with heap := s3.heap.push { cls := .type "slice",data := .fields #[vl,vu,.none] } }
 exact tail_any (ops := [.ref s3.heap.objs.size,v]) ht hT hg (by with_unfolding_all rfl)
def cutV (xs:List V) (lo hi:Option Int):List V := (xs.drop (HT.sIx xs.length 0 lo)).take (HT.sIx xs.length xs.length hi - HT.sIx xs.length 0 lo)
theorem wj (xs:List V) (lo hi:Option Int):(cutV xs lo hi).length <= xs.length := by
 unfold cutV
 rw [List.length_take,List.length_drop]
 omega
def rSlT (K:PySem.W.Frag):V -> Option Int -> Option Int -> Hp -> VK -> Prop := fun x lo hi H Q => ∃ a xs,x = .ref a /\ SqT K H a xs /\
 ¬ (HT.sIx xs.length 0 lo = 0 /\ HT.sIx xs.length xs.length hi = xs.length) /\ ∀ p,H p = none -> Q (.ref p) (upd H p (.tup (cutV xs lo hi)))
theorem WB:SlR X (rSlT X.K) := by
 intro pins s σ H x v vl vu lo hi sl Q I rx hs pl pu h
 obtain ⟨a,xs,rfl,hx,hw,q⟩ := h
 cases rx
 obtain ⟨its,r,ht,hz⟩ := I.tuple hx
 have hlen:its.toArray.size = xs.length := by rw [List.size_toArray]; exact r.length.symm
 refine ⟨"tuple",_,PyProof.Rows.slot_tuple_getitem.lookup,ht.typeIs,?_⟩
 refine HT.je ht hs pl pu (by rw [hlen]; exact hw) ?_ (by rw [hlen]; exact hz)
 rw [hlen]
 refine ⟨.ref s.heap.objs.size,_,I.laid (t' := s.toks) (o := .tup (cutV xs lo hi)) (fun b ob q => Heap.get?_push_of_some _ q) (Nat.le_refl _) ?_,rfl,q _ (I.hok.fresh (Nat.le_refl _))⟩
 exact ⟨Nat.le_trans (wj xs lo hi) hz,_,(r.drop (HT.sIx xs.length 0 lo)).take (HT.sIx xs.length xs.length hi - HT.sIx xs.length 0 lo),IsTup.new _ _⟩
end
end L2
namespace L2
open PySem PySem.Spec PyProof.Rows
def ixN (n:Nat) (i:Int):Option Nat := if 0 <= i then (if i < n then some i.toNat else none) else if -(n:Int) <= i then some (i + n).toNat else none
def atI {α:Type} (xs:List α) (i:Int):Option α := (ixN xs.length i).bind fun j => xs[j]?
theorem Xw {n:Nat} {i:Int} {j:Nat} (h:ixN n i = some j):seqIndex? i n = some j /\ j < n /\ -(n:Int) <= i /\ i < n := by
 unfold ixN at h
 by_cases h0:0 <= i
 · rw [if_pos h0] at h
   by_cases h1:i < n
   · rw [if_pos h1] at h
     have e:i.toNat = j := Option.some.inj h
     exact ⟨by rw [seqIndex_of h0 h1,e],by omega,by omega,h1⟩
   · rw [if_neg h1] at h; cases h
 · rw [if_neg h0] at h
   by_cases h1:-(n:Int) <= i
   · rw [if_pos h1] at h
     have e:(i + n).toNat = j := Option.some.inj h
     exact ⟨by rw [seqIndex_neg (by omega) h1,e],by omega,h1,by omega⟩
   · rw [if_neg h1] at h; cases h
theorem j8 {α:Type} {xs:List α} {i:Int} {v:α} (h:atI xs i = some v):∃ j,seqIndex? i xs.length = some j /\ xs[j]? = some v /\ j < xs.length /\ -(xs.length:Int) <= i /\ i < xs.length := by
 unfold atI at h
 cases e:ixN xs.length i with
 | none => rw [e] at h; cases h
 | some j =>
   rw [e] at h
   obtain ⟨h1,h2,h3,h4⟩ := Xw e
   exact ⟨j,h1,h,h2,h3,h4⟩
theorem yA {α:Type} {xs:List α} {j:Nat} {v:α} (h:xs[j]? = some v):atI xs (j:Int) = some v := by
 have hj:j < xs.length := (List.getElem?_eq_some_iff.mp h).1
 have e:ixN xs.length (j:Int) = some j := by
   unfold ixN
   rw [if_pos (by omega),if_pos (by omega)]; simp
 unfold atI; rw [e]; exact h
theorem wQ {α:Type} (xs:List α) (v:α):atI (xs ++ [v]) (-1) = some v := by
 have hl:(xs ++ [v]).length = xs.length + 1 := by simp
 have e:ixN (xs ++ [v]).length (-1) = some xs.length := by
   unfold ixN
   rw [hl,if_neg (by decide),if_pos (by omega)]
   congr 1
   omega
 unfold atI
 rw [e]
 show (xs ++ [v])[xs.length]? = some v
 simp
def JS (b:Expr):Prop := ∀ o i,subscripted b false o i = operate [o,i] (getItem o i)
def IxR (X:Cx) (r:R2):Prop :=
 ∀ (value slice:Expr) (pins:List (Addr × Obj)) (s:Shared) (σ:St) (H:Hp) (x y:V) (v u:Value) (Q:VK),Inv X pins σ H s -> RelV x v -> RelV y u -> r x y H Q ->
   subscripted slice false v u = operate [v,u] (getItem v u) -> wpAny (model X.prog X.w) X.A (subscriptTail value slice v u) (EP X pins σ Q) X.xe s
def MtR (X:Cx) (id:String) (r:V -> List V -> Hp -> VK -> Prop):Prop :=
 ∀ (pins:List (Addr × Obj)) (s:Shared) (σ:St) (H:Hp) (x:V) (xs:List V) (v:Value) (us:List Value) (Q:VK),Inv X pins σ H s -> RelV x v -> Vals xs us -> r x xs H Q ->
   wpAny (model X.prog X.w) X.A (call (.builtin id) (v :: us)) (EP X pins σ Q) X.xe s
section
variable {X:Cx} {a b:Expr} {ta tb:TE} {pos:Pos}
theorem zk {r:R2} (hr:IxR X r) (ha:PE X a ta) (hb:PE X b tb) (hs:JS b):PE X (.Subscript a b pos) (tOp r ta tb) := by
 intro pins s σ H Q I h
 exact Subscript_ (binT ha hb I h fun v u s2 x y H2 I2 rx ry q => hr a b pins s2 σ H2 x y v u Q I2 rx ry q (hs _ _))
def rIxL (K:PySem.W.Frag):R2 := fun x y H Q => ∃ p xs i v,x = .ref p /\ y = .int i /\ SqL K H p xs /\ atI xs i = some v /\ Q v H
def rIxT (K:PySem.W.Frag):R2 := fun x y H Q => ∃ p xs i v,x = .ref p /\ y = .int i /\ SqT K H p xs /\ atI xs i = some v /\ Q v H
def rIxS:R2 := fun x y H Q => ∃ z i c,x = .str z /\ y = .int i /\ z.length <= sizeLine /\ atI z.cps.toList i = some c /\ Q (.str ⟨#[c]⟩) H
theorem zy:IxR X (rIxL X.K) := by
 intro value slice pins s σ H x y v u Q I rx ry h hs
 obtain ⟨p,xs,i,z,rfl,rfl,hq,he,q⟩ := h
 cases rx
 obtain ⟨t,rfl⟩ := ry
 obtain ⟨its,r,pl,hz⟩ := I.list hq
 obtain ⟨j,h1,h2,h3,h4,h5⟩ := j8 he
 obtain ⟨w,ew,rw'⟩ := r.get h2
 have hl := r.length
 have hn := xX
 have fin:EP X pins σ Q w s := ⟨z,H,I,rw',q⟩
 by_cases h0:0 <= i
 · have hj:i.toNat = j := by
     rw [seqIndex_of h0 h5] at h1
     exact Option.some.inj h1
   exact item_listR pl.isList h0 (by omega) (by rw [hj]; simpa using ew) fin hs
 · have hj:(i + (its.toArray.size:Int)).toNat = j := by
     rw [seqIndex_neg (by omega) h4] at h1
     rw [List.size_toArray,<- hl]
     exact Option.some.inj h1
   exact subscriptTail_builtinR (x := w) pl.isList.typeIs slot_list_getitem.lookup
     (wpAny_getItem_list_neg (Q := fun r s' => r = w /\ EP X pins σ Q r s') pl.isList (by omega) (by rw [List.size_toArray] <;> omega) (by omega) (by rw [hj]; simpa using ew) ⟨rfl,fin⟩) hs
theorem zN:IxR X (rIxT X.K) := by
 intro value slice pins s σ H x y v u Q I rx ry h hs
 obtain ⟨p,xs,i,z,rfl,rfl,hq,he,q⟩ := h
 cases rx
 obtain ⟨t,rfl⟩ := ry
 obtain ⟨its,r,pl,hz⟩ := I.tuple hq
 obtain ⟨j,h1,h2,h3,h4,h5⟩ := j8 he
 obtain ⟨w,ew,rw'⟩ := r.get h2
 have hl := r.length
 have hn := xX
 have fin:EP X pins σ Q w s := ⟨z,H,I,rw',q⟩
 exact subscriptTail_builtinR (x := w) pl.typeIs slot_tuple_getitem.lookup
   (getItem_tuple (j := j) (Q := fun r s' => r = w /\ EP X pins σ Q r s') pl (by omega) (by omega) (by rw [List.size_toArray,<- hl]; exact h1) (by simpa using ew) ⟨rfl,fin⟩) hs
theorem za1:IxR X rIxS := by
 intro value slice pins s σ H x y v u Q I rx ry h hs
 obtain ⟨z,i,c,rfl,rfl,hz,he,q⟩ := h
 obtain ⟨t,rfl⟩ := rx
 obtain ⟨t',rfl⟩ := ry
 obtain ⟨j,h1,h2,h3,h4,h5⟩ := j8 he
 have hl:z.cps.toList.length = z.length := by simp [Str.length]
 rw [hl] at h1 h4 h5
 have hn := xX
 exact tail_any (typeIs_str s z t) slot_str_getitem.lookup (getItem_str (c := c) (by
   have e1:decide (i < -(2 ^ 63:Int)) = false := decide_eq_false (by omega)
   have e2:decide (i ≥ 2 ^ 63) = false := decide_eq_false (by omega)
   rw [e1,e2,Bool.or_false]) (by rw [h1]; simpa using h2) ⟨.str ⟨#[c]⟩,H,I.tok _,⟨_,rfl⟩,q⟩) hs
theorem XW (its:List Value) (n j:Nat) (u:Value):Obj.mapSeq (·.setIfInBounds j u) { cls := .type "list",data := .seq its.toArray n } = { cls := .type "list",data := .seq (its.set j u).toArray n } := by
 simp [Obj.mapSeq]
theorem Inv.lst {pins:List (Addr × Obj)} {σ:St} {H:Hp} {s:Shared} {p:Addr} {xs:List V} (I:Inv X pins σ H s) (h:H p = some (.lst xs)) :
   ∃ (its:List Value) (n:Nat),Vals xs its /\ s.heap.get? p = some { cls := .type "list",data := .seq its.toArray n } /\ xs.length <= sizeLine := by
 obtain ⟨z,its,n,r,e⟩ := I.hok p _ h
 exact ⟨its,n,r,e,z⟩
theorem Inv.lstUpd {pins:List (Addr × Obj)} {σ:St} {H:Hp} {s:Shared} {p:Addr} {xs ys:List V} {its its':List Value} {n n':Nat} {f:Obj -> Obj} (I:Inv X pins σ H s) (h:H p = some (.lst xs))
   (ho:s.heap.get? p = some { cls := .type "list",data := .seq its.toArray n }) (hf:f { cls := .type "list",data := .seq its.toArray n } = { cls := .type "list",data := .seq its'.toArray n' }) (r:Vals ys its') (hz:ys.length <= sizeLine) (t:Nat) :
   Inv X pins σ (upd H p (.lst ys)) { s with heap := s.heap.update p f,toks := t } := by
 have e:(s.heap.update p f).get? p = some { cls := .type "list",data := .seq its'.toArray n' } := by
   rw [Heap.get?_update_self f ho (by rw [hf] <;> rfl),hf]
 refine I.write (x := p) (e := p) (by rw [h]; trivial) (.inl rfl) (fun b u hb q => (Heap.get?_update_other _ _ (Ne.symm hb)).trans q) ⟨_,e⟩ ?_
 exact ⟨hz,its',n',r,e⟩
def zbW:V -> V -> V -> Hp -> (Hp -> Prop) -> Prop := fun o i v H Q => ∃ p xs k j,o = .ref p /\ i = .int k /\ H p = some (.lst xs) /\ ixN xs.length k = some j /\ Q (upd H p (.lst (xs.set j v)))
theorem set_list:PSet X zbW := by
 intro pins s σ H o i v ov iv u Q I ro ri rv h
 obtain ⟨p,xs,k,j,rfl,rfl,hp,hj,q⟩ := h
 cases ro
 obtain ⟨t,rfl⟩ := ri
 obtain ⟨its,n,r,ho,hz⟩ := I.lst hp
 obtain ⟨h1,h2,h3,h4⟩ := Xw hj
 have hl := r.length
 have hn := xX
 have I':Inv X pins σ (upd H p (.lst (xs.set j v))) { s with heap := s.heap.update p (Obj.mapSeq (·.setIfInBounds j u)) } :=
   I.lstUpd hp ho (XW its n j u) (r.set rv j) (by rw [List.length_set]; exact hz) s.toks
 by_cases h0:0 <= k
 · have hk:k.toNat = j := by
     rw [seqIndex_of h0 h4] at h1
     exact Option.some.inj h1
   exact PySem.W.ki_setAt ho h0 (by omega) (by rw [List.size_toArray,<- hl]; exact h4) (by rw [hk]; exact ⟨_,I',q⟩)
 · have hk:(k + (its.toArray.size:Int)).toNat = j := by
     rw [seqIndex_neg (by omega) h3] at h1
     rw [List.size_toArray,<- hl]
     exact Option.some.inj h1
   exact PySem.W.ki_setBack ho (by omega) (by rw [List.size_toArray,<- hl]; exact h3) (by omega) (by rw [hk]; exact ⟨_,I',q⟩)
theorem Yl (lo hi:Option Int) (n:Nat):(sliceBounds lo hi none n).1 = ((HT.sIx n 0 lo:Nat):Int) /\ (sliceBounds lo hi none n).2.1 = ((HT.sIx n n hi:Nat):Int) /\ (sliceBounds lo hi none n).2.2 = 1 := by
 refine ⟨?_,?_,rfl⟩
 · cases lo with
   | none => simp [sliceBounds,HT.sIx]
   | some i =>
     simp only [sliceBounds,HT.sIx,Option.getD_none,show (1:Int) > 0 by decide,if_true]
     by_cases h:i < 0
     · simp only [h,if_true] <;> omega
     · simp only [h,if_false] <;> omega
 · cases hi with
   | none => simp [sliceBounds,HT.sIx]
   | some i =>
     simp only [sliceBounds,HT.sIx,Option.getD_none,show (1:Int) > 0 by decide,if_true]
     by_cases h:i < 0
     · simp only [h,if_true] <;> omega
     · simp only [h,if_false] <;> omega
theorem Z2 (its:List Value) (lo hi:Option Int):slicePick its.toArray lo hi none = ((its.drop (HT.sIx its.length 0 lo)).take (HT.sIx its.length its.length hi - HT.sIx its.length 0 lo)).toArray := by
 obtain ⟨h1,h2,h3⟩ := Yl lo hi its.toArray.size
 unfold slicePick
 rw [h1,h2,h3]
 simp only [sliceRange_one,pick_run,List.size_toArray] <;> rfl
def rSlL (K:PySem.W.Frag):V -> Option Int -> Option Int -> Hp -> VK -> Prop := fun x lo hi H Q => ∃ a xs,x = .ref a /\ SqL K H a xs /\ ∀ p,H p = none -> Q (.ref p) (upd H p (.lst (cutV xs lo hi)))
theorem xP:SlR X (rSlL X.K) := by
 intro pins s σ H x v vl vu lo hi sl Q I rx hs pl pu h
 obtain ⟨a,xs,rfl,hx,q⟩ := h
 cases rx
 obtain ⟨its,r,ht,hz⟩ := I.list hx
 have hlen := r.length
 refine ⟨"list",_,slot_list_getitem.lookup,ht.isList.typeIs,?_⟩
 refine wpAny_getItem_list_slice ht.isList hs pl pu .none (by simp) ?_ (by rw [List.size_toArray] <;> omega)
 rw [Z2,<- hlen]
 refine ⟨.ref s.heap.objs.size,_,I.laid (t' := s.toks) (o := .lst (cutV xs lo hi)) (fun b ob q => Heap.get?_push_of_some _ q) (Nat.le_refl _) ?_,rfl,q _ (I.hok.fresh (Nat.le_refl _))⟩
 exact ⟨Nat.le_trans (wj xs lo hi) hz,_,0,(r.drop (HT.sIx xs.length 0 lo)).take (HT.sIx xs.length xs.length hi - HT.sIx xs.length 0 lo),Heap.get?_push_size _ rfl⟩
def xj:V -> Bool
 | .non => true
 | .bl _ => true
 | .int _ => true
 | .str _ => true
 | _ => false
def eqV:V -> V -> Bool
 | .non,.non => true
 | .bl a,.bl b => a == b
 | .bl a,.int b => (if a then 1 else 0) == b
 | .int a,.bl b => a == (if b then 1 else 0)
 | .int a,.int b => a == b
 | .str a,.str b => a == b
 | _,_ => false
theorem WC {A:Around} {s:Shared} {y x:V} {u v:Value} (ry:RelV y u) (rx:RelV x v) (fy:xj y = true) (fx:xj x = true):SeqAt.EqAt A s u v (eqV y x) := by
 cases y with
 | non =>
   cases ry
   cases x with
   | non => cases rx; exact SeqAt.EqAt.same _
   | bl b => cases rx; exact SeqAt.EqAt.none_bool b
   | int b => obtain ⟨t,rfl⟩ := rx; exact SeqAt.EqAt.none_int b t
   | str b => obtain ⟨t,rfl⟩ := rx; exact SeqAt.EqAt.none_str b t
   | _ => exact absurd (show false = true from fx) Bool.false_ne_true
 | bl a =>
   cases ry
   cases x with
   | non => cases rx; exact SeqAt.EqAt.bool_none a
   | bl b => cases rx; exact SeqAt.EqAt.bool_bool a b
   | int b => obtain ⟨t,rfl⟩ := rx; exact SeqAt.EqAt.bool_int a b t
   | str b => obtain ⟨t,rfl⟩ := rx; exact SeqAt.EqAt.bool_str a b t
   | _ => exact absurd (show false = true from fx) Bool.false_ne_true
 | int a =>
   obtain ⟨t',rfl⟩ := ry
   cases x with
   | non => cases rx; exact SeqAt.EqAt.int_none a t'
   | bl b => cases rx; exact SeqAt.EqAt.int_bool a t' b
   | int b => obtain ⟨t,rfl⟩ := rx; exact SeqAt.EqAt.int_int a t' b t
   | str b => obtain ⟨t,rfl⟩ := rx; exact SeqAt.EqAt.int_str a t' b t
   | _ => exact absurd (show false = true from fx) Bool.false_ne_true
 | str a =>
   obtain ⟨t',rfl⟩ := ry
   cases x with
   | non => cases rx; exact SeqAt.EqAt.str_none a t'
   | bl b => cases rx; exact SeqAt.EqAt.str_bool a t' b
   | int b => obtain ⟨t,rfl⟩ := rx; exact SeqAt.EqAt.str_int a t' b t
   | str b => obtain ⟨t,rfl⟩ := rx; exact SeqAt.EqAt.str_str a t' b t
   | _ => exact absurd (show false = true from fx) Bool.false_ne_true
 | _ => exact absurd (show false = true from fy) Bool.false_ne_true
def eqU (x:V) (u:Value):Bool := match u with
 | .none => eqV .non x
 | .bool b => eqV (.bl b) x
 | .int i _ => eqV (.int i) x
 | .str z _ => eqV (.str z) x
 | _ => false
theorem WD {x y:V} {u:Value} (r:RelV y u) (f:xj y = true):eqU x u = eqV y x := by
 cases y with
 | non => cases r; rfl
 | bl b => cases r; rfl
 | int i => obtain ⟨t,rfl⟩ := r; rfl
 | str z => obtain ⟨t,rfl⟩ := r; rfl
 | _ => exact absurd (show false = true from f) Bool.false_ne_true
theorem j9 {x:V}:∀ {xs:List V} {us:List Value},Vals xs us -> xs.all xj = true -> us.any (eqU x) = xs.any fun y => eqV y x
 | _,_,.nil,_ => rfl
 | y :: xs,u :: us,.cons r t,f => by
   rw [List.all_cons,Bool.and_eq_true] at f
   rw [List.any_cons,List.any_cons,WD r f.1,j9 t f.2]
theorem jm {A:Around} {s:Shared} {x:V} {v:Value} (rx:RelV x v) (fx:xj x = true):∀ {xs:List V} {us:List Value},Vals xs us -> xs.all xj = true -> ∀ u ∈ us,SeqAt.EqAt A s u v (eqU x u)
 | _,_,.nil,_ => fun u hu => by cases hu
 | y :: xs,u :: us,.cons r t,f => fun u' hu => by
   rw [List.all_cons,Bool.and_eq_true] at f
   rcases List.mem_cons.mp hu with rfl | hu
   · rw [WD r f.1]; exact WC r rx f.1 fx
   · exact jm rx fx t f.2 u' hu
def inV (x:V) (xs:List V):Bool := xs.any fun y => eqV y x
def rIn (K:PySem.W.Frag) (neg:Bool):R2 := fun x y H Q => ∃ p xs,y = .ref p /\ (SqL K H p xs \/ SqT K H p xs) /\ xj x = true /\ xs.all xj = true /\ Q (.bl (if neg then !inV x xs else inV x xs)) H
theorem WE:OpR X (compareOp .In) (rIn X.K false) := by
 intro pins s σ H x y v u Q I rx ry h
 obtain ⟨p,xs,rfl,hq,fx,fs,q⟩ := h
 cases ry
 rcases hq with hq | hq
 · obtain ⟨its,r,pl,hz⟩ := I.list hq
   refine SeqAt.in_listAt (eqU x) pl.isList (fun w hw => jm rx fx r fs w (by simpa using hw)) ⟨.bl _,H,I,rfl,?_⟩
   rw [show its.toArray.any (eqU x) = its.any (eqU x) by simp,j9 r fs]
   exact q
 · obtain ⟨its,r,pl,hz⟩ := I.tuple hq
   refine SeqAt.in_tupleAt (eqU x) pl (fun w hw => jm rx fx r fs w (by simpa using hw)) ⟨.bl _,H,I,rfl,?_⟩
   rw [show its.toArray.any (eqU x) = its.any (eqU x) by simp,j9 r fs]
   exact q
theorem zm:yx X (.builtin "len") (fun xs H Q => ∃ p ys,xs = [.ref p] /\ (SqL X.K H p ys \/ SqT X.K H p ys) /\ Q (.int ys.length) H) := by
 intro pins s σ H xs us Q I r h
 obtain ⟨p,ys,rfl,hq,q⟩ := h
 obtain ⟨u,rfl,rx⟩ := vals1 r
 cases rx
 have hn := xX
 rcases hq with hq | hq
 · obtain ⟨its,r',pl,hz⟩ := I.list hq
   have hlen := r'.length
   exact Calls.call_len_list pl.isList (by simp only [List.size_toArray] <;> omega) ⟨.int ys.length,H,I.tok _,⟨s.toks + 1,by rw [List.size_toArray,hlen]⟩,q⟩
 · obtain ⟨its,r',pl,hz⟩ := I.tuple hq
   have hlen := r'.length
   exact len_tuple pl (by simp only [List.size_toArray] <;> omega) ⟨.int ys.length,H,I.tok _,⟨s.toks + 1,by rw [List.size_toArray,hlen]⟩,q⟩
theorem ye:yx X (.builtin "len") (fun xs H Q => ∃ z,xs = [.str z] /\ z.length <= sizeLine /\ Q (.int z.length) H) := by
 intro pins s σ H xs us Q I r h
 obtain ⟨z,rfl,hz,q⟩ := h
 obtain ⟨u,rfl,t,rfl⟩ := vals1 r
 have hn := xX
 exact len_str (by omega) ⟨.int z.length,H,I.tok _,⟨_,rfl⟩,q⟩
theorem Ym:yx X (.type "list") (fun xs H Q => ∃ p ys,xs = [.ref p] /\ (SqL X.K H p ys \/ SqT X.K H p ys) /\ ∀ l,H l = none -> Q (.ref l) (upd H l (.lst ys))) := by
 intro pins s σ H xs us Q I r h
 obtain ⟨p,ys,rfl,hq,q⟩ := h
 obtain ⟨u,rfl,rx⟩ := vals1 r
 cases rx
 have fin:∀ (its:List Value),Vals ys its -> ys.length <= sizeLine -> ∀ (h':Heap) (c':Nat),(∀ b o',s.heap.get? b = some o' -> h'.get? b = some o') ->
     h'.get? s.heap.objs.size = some { cls := .type "list",dict := none,data := .seq its.toArray c',slots := #[] } -> EP X pins σ Q (.ref s.heap.objs.size) { s with heap := h' } := fun its r' hz h' c' kp e =>
   ⟨.ref s.heap.objs.size,_,I.laid (t' := s.toks) kp (Nat.le_refl _) (show yj X.prog X.w _ h' _ (.lst ys) from ⟨hz,its,c',r',e⟩),rfl,q _ (I.hok.fresh (Nat.le_refl _))⟩
 rcases hq with hq | hq
 · obtain ⟨its,r',pl,hz⟩ := I.list hq
   have hlen := r'.length
   obtain ⟨o,ho,hc,n,hd⟩ := pl.isList
   exact call_list_seq p (.inl rfl) ho hc hd (fun h' c' kp e => fin its r' hz h' c' kp e) (by simp only [List.size_toArray] <;> omega)
 · obtain ⟨its,r',pl,hz⟩ := I.tuple hq
   have hlen := r'.length
   obtain ⟨o,ho,hc,n,hd⟩ := pl
   exact call_list_seq p (.inr rfl) ho hc hd (fun h' c' kp e => fin its r' hz h' c' kp e) (by simp only [List.size_toArray] <;> omega)
theorem xk:yx X (.type "tuple") (fun xs H Q => ∃ p ys,xs = [.ref p] /\ ((SqL X.K H p ys /\ ∀ l,H l = none -> Q (.ref l) (upd H l (.tup ys))) \/ (SqT X.K H p ys /\ Q (.ref p) H))) := by
 intro pins s σ H xs us Q I r h
 obtain ⟨p,ys,rfl,h⟩ := h
 obtain ⟨u,rfl,rx⟩ := vals1 r
 cases rx
 rcases h with ⟨hq,q⟩ | ⟨hq,q⟩
 · obtain ⟨its,r',pl,hz⟩ := I.list hq
   have hlen := r'.length
   refine call_tuple_list pl.isList (fun h' kp => ?_) (by simp only [List.size_toArray] <;> omega)
   have I1:Inv X pins σ H { s with heap := h' } := I.kept (t' := s.toks) kp
   have I2:Inv X pins σ (upd H h'.objs.size (.tup ys)) { s with heap := h'.push { cls := .type "tuple",data := .seq its.toArray } } :=
     I1.laid (t' := s.toks) (fun b o e => Heap.get?_push_of_some _ e) (Nat.le_refl _) (show yj X.prog X.w _ _ _ (.tup ys) from ⟨hz,its,r',IsTup.new _ _⟩)
   exact ⟨.ref h'.objs.size,_,I2,rfl,q _ (I1.hok.fresh (Nat.le_refl _))⟩
 · obtain ⟨its,r',pl,hz⟩ := I.tuple hq
   exact call_tuple_same pl ⟨.ref p,H,I,rfl,q⟩
def tyV (K:PySem.W.Frag) (T:String) (x:V) (H:Hp):Prop := match x with
 | .str _ => T = "str"
 | .int _ => T = "int"
 | .ref p => (T = "list" /\ ∃ xs,SqL K H p xs) \/ (T = "tuple" /\ ∃ o,K.lookup p = some o /\ o.cls = .type "tuple" /\ o.dict = none) \/
     (T = "dict" /\ ((∃ kvs,H p = some (.dK kvs)) \/ ∃ kvs,H p = some (.dT kvs))) \/ (T = "set" /\ ∃ S n,H p = some (.set S n))
 | _ => False
theorem WF {pins:List (Addr × Obj)} {σ:St} {H:Hp} {s:Shared} {T:String} {x:V} {v:Value} (I:Inv X pins σ H s) (r:RelV x v) (ty:tyV X.K T x H) :
   s.TypeIs v T /\ ∀ a,v = .ref a -> ∃ ob,s.heap.get? a = some ob /\ ob.dict = none := by
 cases x with
 | str z =>
   obtain ⟨t,rfl⟩ := r
   cases (show T = "str" from ty)
   exact ⟨typeIs_str s z t,fun _ e => nomatch e⟩
 | int i =>
   obtain ⟨t,rfl⟩ := r
   cases (show T = "int" from ty)
   exact ⟨typeIs_int s i t,fun _ e => nomatch e⟩
 | ref p =>
   cases r
   rcases ty with ⟨rfl,xs,hq⟩ | ⟨rfl,o,hk,hc,hd⟩ | ⟨rfl,hk⟩ | ⟨rfl,S,n,hk⟩
   · obtain ⟨its,_,pl,_⟩ := I.list hq
     refine ⟨pl.isList.typeIs,fun a e => ?_⟩
     cases e
     obtain ⟨o,n,e,c,hd,_⟩ := pl
     exact ⟨o,e,hd⟩
   · refine ⟨⟨o,I.kIn p o hk,hc⟩,fun a e => ?_⟩
     cases e
     exact ⟨o,I.kIn _ o hk,hd⟩
   · have z:∃ o,s.heap.get? p = some o /\ o.ExactDict := by
       rcases hk with ⟨kvs,hk⟩ | ⟨kvs,hk⟩
       · obtain ⟨_,_,_,_,o,_,_,e,ex,_⟩ := I.hok p _ hk
         exact ⟨o,e,ex⟩
       · obtain ⟨_,_,_,_,o,_,_,e,ex,_⟩ := I.hok p _ hk
         exact ⟨o,e,ex⟩
     obtain ⟨o,e,ex⟩ := z
     refine ⟨⟨o,e,ex.1⟩,fun a e2 => ?_⟩
     cases e2
     exact ⟨o,e,ex.2.1⟩
   · obtain ⟨o,_,_,_,e,ex,_⟩ := I.hok p _ hk
     refine ⟨⟨o,e,ex.1⟩,fun a e2 => ?_⟩
     cases e2
     exact ⟨o,e,ex.2.1⟩
 | _ => exact False.elim ty
def tBM0 (K:PySem.W.Frag) (T:String) (r:V -> List V -> Hp -> VK -> Prop) (to:TE):TE := fun σ H Q => to σ H fun x H1 => tyV K T x H1 /\ r x [] H1 Q
def tBM (K:PySem.W.Frag) (T:String) (r:V -> List V -> Hp -> VK -> Prop) (to:TE) (t:TA):TE := fun σ H Q => to σ H fun x H1 => tyV K T x H1 /\ t σ H1 fun xs H2 => r x xs H2 Q
variable {o e:Expr} {es:List Expr} {to:TE} {t:TA} {name:Str} {apos cpos:Pos} {T id:String} {r:V -> List V -> Hp -> VK -> Prop}
theorem Yn (pa:PlainAttrs T) (slot:Slot T name id) (hty:typeOf (.builtin id) = pure (.type "method_descriptor")) (hm:MtR X id r) (ho:PE X o to)
   (hbase:attributeBase o name X.env (eval o X.env) = eval o X.env := by rfl) (hline:(apos.endLine == cpos.line) = true := by rfl):PE X (.Call (.Attribute o name apos) [] [] cpos) (tBM0 X.K T r to) := by
 intro pins s σ H Q I h
 refine wpAny_Call_method0_late hbase hline (thn (ho pins s σ H _ I h) fun v s1 ⟨x,H1,I1,r1,ty,q1⟩ => ?_)
 obtain ⟨h1,h2⟩ := WF I1 r1 ty
 exact ⟨T,id,pa,slot,hty,h1,h2,Calls.callWith_builtin rfl (PySem.evalArgs_none (hm pins s1 σ H1 x [] v [] Q I1 r1 .nil q1))⟩
theorem yz (pa:PlainAttrs T) (slot:Slot T name id) (hty:typeOf (.builtin id) = pure (.type "method_descriptor")) (hm:MtR X id r) (ho:PE X o to) (ha:PA X (e :: es) t)
   (hbase:attributeBase o name X.env (eval o X.env) = eval o X.env := by rfl)
   (hfew:((backTo cpos (starEach (e :: es) X.env)).all (fun x => !x.1) && (backToKw cpos (keywordEach [] X.env)).all (fun x => x.1.isSome)
     && decide ((e :: es).length + ([]:List Keyword).length + (if ([]:List Keyword).isEmpty then 0 else 1) < 30)) = true := by rfl)
   (hline:(apos.endLine == cpos.line) = true := by rfl) (hs:starEach (e :: es) X.env = (false,eval e X.env) :: starEach es X.env := by rfl) (hplain:(backTo cpos (starEach es X.env)).any (·.1) = false := by rfl) :
   PE X (.Call (.Attribute o name apos) (e :: es) [] cpos) (tBM X.K T r to t) := by
 intro pins s σ H Q I h
 refine wpAny_Call_method_late hbase hfew hline rfl (thn (ho pins s σ H _ I h) fun v s1 ⟨x,H1,I1,r1,ty,q1⟩ => ?_)
 obtain ⟨h1,h2⟩ := WF I1 r1 ty
 refine ⟨T,id,pa,slot,hty,h1,h2,?_⟩
 have hA := ha cpos pins s1 σ H1 _ I1 q1
 rw [hs] at hA ⊢
 refine Calls.callWith_builtin (by show (false || (backTo cpos (starEach es X.env)).any (·.1)) = false; rw [hplain] <;> rfl) (Calls.evalArgs_plain ?_)
 exact thn hA fun us s2 ⟨vs,H2,I2,r2,q2⟩ => hm pins s2 σ H2 x vs v us Q I2 r1 r2 q2
end
end L2
namespace L2
open PySem PySem.Spec PyProof.Rows
def MtM (X:Cx) (id:String) (r:V -> List V -> Hp -> VK -> Prop):Prop :=
 ∀ (pins:List (Addr × Obj)) (s:Shared) (σ:St) (H:Hp) (x:V) (xs:List V) (v:Value) (us:List Value) (Q:VK),Inv X pins σ H s -> RelV x v -> Vals xs us -> r x xs H Q ->
   wpAny (model X.prog X.w) X.A (call (.builtin id) (v :: us)) (EP X pins σ Q) X.xe s
theorem Vals.one:∀ {x:V} {us:List Value},Vals [x] us -> ∃ u,us = [u] /\ RelV x u
 | _,_,.cons r .nil => ⟨_,rfl,r⟩
theorem Vals.zero:∀ {us:List Value},Vals [] us -> us = []
 | _,.nil => rfl
theorem Vals.dropLast {xs:List V} {us:List Value} (h:Vals xs us):Vals xs.dropLast us.dropLast := by
 induction h with
 | nil => exact .nil
 | cons r t ih =>
   cases t with
   | nil => exact .nil
   | cons q t' => exact .cons r ih
theorem Vals.eraseIdx:∀ {xs:List V} {us:List Value} (i:Nat),Vals xs us -> Vals (xs.eraseIdx i) (us.eraseIdx i)
 | _,_,_,.nil => .nil
 | _,_,0,.cons _ t => t
 | _,_,i + 1,.cons r t => .cons r (Vals.eraseIdx i t)
theorem Vals.rep {xs:List V} {us:List Value} (h:Vals xs us):∀ k:Nat,Vals (List.replicate k xs).flatten (List.replicate k us).flatten
 | 0 => .nil
 | k + 1 => by
   rw [List.replicate_succ,List.replicate_succ,List.flatten_cons,List.flatten_cons]
   exact Vals.append h (Vals.rep h k)
theorem XX {α:Type} (l:List α):l.eraseIdx (l.length - 1) = l.dropLast := by
 induction l with
 | nil => rfl
 | cons a r ih =>
   cases r with
   | nil => rfl
   | cons b r =>
     have e:(a :: b :: r).length - 1 = ((b :: r).length - 1) + 1 := by
       have h1:(a :: b :: r).length = r.length + 2 := rfl
       have h2:(b :: r).length = r.length + 1 := rfl
       omega
     rw [e,List.eraseIdx_cons_succ,ih]
     all_goals rfl
theorem Zy {α:Type}:∀ (l:List α) (i:Nat),(l.eraseIdx i).length <= l.length
 | [],_ => Nat.le_refl _
 | _ :: _,0 => Nat.le_succ _
 | _ :: r,i + 1 => Nat.succ_le_succ (Zy r i)
theorem foldl_rep (its:List Value):∀ (k:Nat) (acc:List Value),
   List.foldl (fun x1 x2 => x1 ++ x2) acc.toArray (List.replicate k its.toArray) = (acc ++ (List.replicate k its).flatten).toArray
 | 0,acc => by simp
 | k + 1,acc => by
   have e:acc.toArray ++ its.toArray = (acc ++ its).toArray := by simp
   have e2:(acc ++ its) ++ (List.replicate k its).flatten = acc ++ (List.replicate (k + 1) its).flatten := by
     rw [List.replicate_succ,List.flatten_cons,List.append_assoc]
   rw [<- e2,<- foldl_rep its k (acc ++ its),<- e,List.replicate_succ,List.foldl_cons]
section
variable {X:Cx} {pins:List (Addr × Obj)} {σ:St} {H:Hp} {s:Shared} {l b:Addr} {xs ys zs:List V}
theorem Inv.lset {its its':List Value} {n:Nat} {f:Array Value -> Array Value} {t':Nat} (I:Inv X pins σ H s) (hH:H l = some (.lst xs))
   (e:s.heap.get? l = some { cls := .type "list",data := .seq its.toArray n }) (hf:f its.toArray = its'.toArray) (hv:Vals ys its') (hz:ys.length <= sizeLine) :
   Inv X pins σ (upd H l (.lst ys)) { s with heap := s.heap.update l (Obj.mapSeq f),toks := t' } := by
 have q := PySem.IsL.update e f
 rw [hf] at q
 refine I.write (x := l) (e := l) (by rw [hH]; exact trivial) (.inl rfl) (fun b' u hb hu => (Heap.get?_update_other s.heap (Obj.mapSeq f) (Ne.symm hb)).trans hu) ⟨_,q⟩ ?_
 exact ⟨hz,its',_,hv,q⟩
theorem Inv.lnew {its:List Value} {t':Nat} (I:Inv X pins σ H s) (hv:Vals ys its) (hz:ys.length <= sizeLine) :
   Inv X pins σ (upd H s.heap.objs.size (.lst ys)) { s with heap := s.heap.push { cls := .type "list",data := .seq its.toArray },toks := t' } :=
 I.laid (fun _ _ q => Heap.get?_push_of_some _ q) (Nat.le_refl _) ⟨hz,its,0,hv,Heap.get?_push_size _ rfl⟩
theorem Inv.fresh (I:Inv X pins σ H s):H s.heap.objs.size = none := I.hok.fresh (Nat.le_refl _)
theorem Inv.lstM (I:Inv X pins σ H s) (hH:H l = some (.lst xs)):xs.length <= sizeLine /\ ∃ (its:List Value) (n:Nat),Vals xs its /\ xs.length = its.length /\ s.heap.get? l = some { cls := .type "list",data := .seq its.toArray n } := by
 obtain ⟨z,its,n,r,e⟩ := I.hok l _ hH
 exact ⟨z,its,n,r,r.length,e⟩
theorem jn {n:Nat} (h:n <= sizeLine):Builtin.List.listTooLong n = false := by
 unfold Builtin.List.listTooLong
 exact decide_eq_false (by omega)
end
section
variable {X:Cx}
def JU:V -> List V -> Hp -> VK -> Prop := fun x vs H Q => ∃ l xs y,x = .ref l /\ vs = [y] /\ H l = some (.lst xs) /\ xs.length < sizeLine /\ Q .non (upd H l (.lst (xs ++ [y])))
theorem ym:MtM X "list.append" JU := by
 intro pins s σ H x vs v us Q I rx rv h
 obtain ⟨l,xs,y,rfl,rfl,hH,hz,q⟩ := h
 cases rx
 obtain ⟨u,rfl,ru⟩ := rv.one
 obtain ⟨z,its,n,r,hl,e⟩ := I.lstM hH
 refine call_meets F.slot_list_append ⟨_,e,rfl⟩ F.entry_list_append (F.args_list_append_2 _ _) (PySem.list_append l its.toArray n u (by rw [List.size_toArray]; omega)) ⟨e,?_⟩
 refine ⟨.non,_,I.lset (its' := its ++ [u]) hH e (by simp) (r.append (.cons ru .nil)) ?_,rfl,q⟩
 rw [List.length_append,List.length_singleton]
 omega
def JV:V -> List V -> Hp -> VK -> Prop := fun x vs H Q => ∃ l b xs zs,x = .ref l /\ vs = [.ref b] /\ H l = some (.lst xs) /\ H b = some (.lst zs) /\ xs.length + zs.length <= sizeLine /\ Q .non (upd H l (.lst (xs ++ zs)))
theorem WG:MtM X "list.extend" JV := by
 intro pins s σ H x vs v us Q I rx rv h
 obtain ⟨l,b,xs,zs,rfl,rfl,hH,hB,hz,q⟩ := h
 cases rx
 obtain ⟨u,rfl,ru⟩ := rv.one
 cases ru
 obtain ⟨z,its,n,r,hl,e⟩ := I.lstM hH
 obtain ⟨z2,its2,n2,r2,hl2,e2⟩ := I.lstM hB
 have hsz:its.toArray.size + its2.toArray.size <= sizeLine := by rw [List.size_toArray,List.size_toArray]; omega
 have hlong:¬ (!its.toArray.isEmpty && Builtin.List.listTooLong (its.toArray.size + its2.toArray.size)) = true := by
   rw [jn hsz,Bool.and_false]
   exact Bool.false_ne_true
 refine call_meets F.slot_list_extend ⟨_,e,rfl⟩ F.entry_list_extend (F.args_list_extend_2 _ _)
   (AutoSeq1.list_extend_list_list_0 l its.toArray n b its2.toArray n2 hlong (by rw [List.size_toArray]; omega) (by omega)) ⟨e,e2,?_⟩
 refine ⟨.non,_,I.lset (its' := its ++ its2) hH e (by simp) (r.append r2) ?_,rfl,q⟩
 rw [List.length_append]
 omega
def rPop:V -> List V -> Hp -> VK -> Prop := fun x vs H Q => ∃ l xs y,x = .ref l /\ vs = [] /\ H l = some (.lst xs) /\ xs[xs.length - 1]? = some y /\ Q y (upd H l (.lst xs.dropLast))
theorem Yo:MtM X "list.pop" rPop := by
 intro pins s σ H x vs v us Q I rx rv h
 obtain ⟨l,xs,y,rfl,rfl,hH,hy,q⟩ := h
 cases rx
 have hus := rv.zero
 subst hus
 obtain ⟨z,its,n,r,hl,e⟩ := I.lstM hH
 obtain ⟨u,hu,ru⟩ := r.get hy
 have hy':its.toArray[its.toArray.size - 1]? = some u := by
   show its.toArray[its.length - 1]? = some u
   rw [<- Array.getElem?_toList,<- hl]
   exact hu
 refine call_meets F.slot_list_pop ⟨_,e,rfl⟩ F.entry_list_pop (F.args_list_pop_1 _) (MeetsSeq.list_pop_last l its.toArray n u hy' (by rw [List.size_toArray]; omega)) ⟨e,?_⟩
 refine ⟨y,_,I.lset (its' := its.dropLast) hH e ?_ r.dropLast ?_,ru,q⟩
 · show its.toArray.eraseIdxIfInBounds (its.toArray.size - 1) = its.dropLast.toArray
   rw [List.size_toArray,List.eraseIdxIfInBounds_toArray,XX]
 · rw [List.length_dropLast]
   omega
def za2:V -> List V -> Hp -> VK -> Prop := fun x vs H Q => ∃ l xs i k y,x = .ref l /\ vs = [.int i] /\ H l = some (.lst xs) /\ -(2 ^ 63) <= i /\ i < 2 ^ 63 /\ seqIndex? i xs.length = some k /\ xs[k]? = some y /\ Q y (upd H l (.lst (xs.eraseIdx k)))
theorem Yp:MtM X "list.pop" za2 := by
 intro pins s σ H x vs v us Q I rx rv h
 obtain ⟨l,xs,i,k,y,rfl,rfl,hH,h1,h2,hk,hy,q⟩ := h
 cases rx
 obtain ⟨u,rfl,ru⟩ := rv.one
 obtain ⟨t,rfl⟩ := ru
 obtain ⟨z,its,n,r,hl,e⟩ := I.lstM hH
 obtain ⟨w,hw,rw'⟩ := r.get hy
 refine call_meets F.slot_list_pop ⟨_,e,rfl⟩ F.entry_list_pop (F.args_list_pop_2 _ _)
   (MeetsSeq.list_pop_at l its.toArray n i t k w (fitsIndex_both h1 h2) (by rw [List.size_toArray,<- hl]; exact hk) (by rw [<- Array.getElem?_toList]; exact hw) (by rw [List.size_toArray]; omega)) ⟨e,?_⟩
 refine ⟨y,_,I.lset (its' := its.eraseIdx k) hH e ?_ (r.eraseIdx k) ?_,rw',q⟩
 · show its.toArray.eraseIdxIfInBounds k = (its.eraseIdx k).toArray
   rw [List.eraseIdxIfInBounds_toArray]
 · have := Zy xs k
   omega
def rCat:R2 := fun x y H Q => ∃ l b xs zs,x = .ref l /\ y = .ref b /\ H l = some (.lst xs) /\ H b = some (.lst zs) /\ xs.length + zs.length <= sizeLine /\ ∀ p,H p = none -> Q (.ref p) (upd H p (.lst (xs ++ zs)))
theorem Yq:OpR X (binaryOp .Add) rCat := by
 intro pins s σ H x y v u Q I rx ry h
 obtain ⟨l,b,xs,zs,rfl,rfl,hH,hB,hz,q⟩ := h
 cases rx
 cases ry
 obtain ⟨z,its,n,r,hl,e⟩ := I.lstM hH
 obtain ⟨z2,its2,n2,r2,hl2,e2⟩ := I.lstM hB
 refine PySem.P.add_list e e2 ?_ (by rw [List.size_toArray,List.size_toArray]; omega)
 have ea:its.toArray ++ its2.toArray = (its ++ its2).toArray := by simp
 rw [ea]
 exact ⟨.ref _,_,I.lnew (t' := s.toks) (r.append r2) (by rw [List.length_append]; omega),rfl,q _ I.fresh⟩
def rRep:R2 := fun x y H Q => ∃ l k xs,x = .ref l /\ y = .int k /\ H l = some (.lst xs) /\ -(2 ^ 63) <= k /\ k < 2 ^ 63 /\ xs.length * k.toNat <= sizeLine /\
 ∀ p,H p = none -> Q (.ref p) (upd H p (.lst (List.replicate k.toNat xs).flatten))
theorem len_rep {α:Type} (xs:List α) (k:Nat):(List.replicate k xs).flatten.length = k * xs.length := by
 induction k with
 | zero => simp
 | succ k ih => rw [List.replicate_succ,List.flatten_cons,List.length_append,ih,Nat.succ_mul,Nat.add_comm]
theorem jJ:OpR X (binaryOp .Mult) rRep := by
 intro pins s σ H x y v u Q I rx ry h
 obtain ⟨l,k,xs,rfl,rfl,hH,h1,h2,hz,q⟩ := h
 cases rx
 obtain ⟨t,rfl⟩ := ry
 obtain ⟨z,its,n,r,hl,e⟩ := I.lstM hH
 have hlen:its.toArray.size * k.toNat <= sizeLine := by rw [List.size_toArray,<- hl]; exact hz
 have hcap:¬ its.toArray.size * k.toNat > (2 ^ 63 - 1) / 8 := by
   have:(sizeLine:Nat) <= (2 ^ 63 - 1) / 8 := by decide
   omega
 have hfit:¬ (!Builtin.List.listFitsIndex k) = true := by
   rw [fitsIndex_both h1 h2]
   exact Bool.false_ne_true
 have hlong:¬ Builtin.List.listTooLong (its.toArray.size * k.toNat) = true := by
   rw [jn hlen]
   exact Bool.false_ne_true
 have hnew:List.foldl (fun x1 x2 => x1 ++ x2) #[] (List.replicate (if its.toArray.isEmpty = true then 0 else k.toNat) its.toArray) = (List.replicate k.toNat its).flatten.toArray := by
   have f0:∀ m:Nat,List.foldl (fun x1 x2 => x1 ++ x2) #[] (List.replicate m its.toArray) = (List.replicate m its).flatten.toArray := fun m => by
     have := foldl_rep its m []
     rw [List.nil_append] at this
     exact this
   rw [f0]
   cases its with
   | nil => simp
   | cons a r' => rw [if_neg (by simp)]
 refine wpAny_binaryOp_repeat_ref (T := "list") (U := "int") (by decide) ⟨_,e,rfl⟩ (fun s' => typeIs_int s' k t) noFill_list_mul F.fills_int_mul F.slot_int_rmul repeat_list F.slot_int_index.lookup
   (call_meets F.slot_int_rmul (typeIs_int s k t) F.entry_int_rmul (F.args_int_rmul_2 _ _) (int___rmul___int_list k t l its.toArray n)
     ⟨e,rfl,⟨_,e,rfl⟩,call_meets F.slot_list_mul ⟨_,e,rfl⟩ F.entry_list_mul (F.args_list_mul_2 _ _) (AutoListH.list___mul___list_int_3 l its.toArray n k t hfit hcap hlong) ⟨e,?_⟩⟩)
 rw [hnew]
 exact ⟨.ref _,_,I.lnew (t' := s.toks) (r.rep k.toNat) (by rw [len_rep,Nat.mul_comm]; exact hz),rfl,q _ I.fresh⟩
end
end L2
namespace Att
open PySem PySem.W PySem.Calls PyProof.Rows
theorem jK {P:Params} {h:Heap}:∀ (ns:List Int) (vs:List Value),WellAll P h vs (ns.map WData.int) -> IntsAre vs ns := by
 intro ns
 induction ns with
 | nil =>
   intro vs w
   rw [List.map_nil] at w
   cases w
   exact .nil
 | cons n ns ih =>
   intro vs w
   rw [List.map_cons] at w
   cases w with
   | cons a b =>
     cases a
     exact .cons _ _ (ih _ b)
theorem WH {l:OpenLaw} {n:Nat} (hn:l.most = some n) {P:Params} {h:Heap} {args:List WData} {vals:List Value}
   (hpre:l.row.toRowW.claim.pre args = true) (hwl:WellAll P h vals args) :
   ∃ a vs ns,vals = [Value.ref a] /\ args = [WData.list (ns.map WData.int)] /\ h.get? a = some { cls := .type "list",data := .seq vs.toArray } /\ IntsAre vs ns /\ ns.length <= n := by
 have hsh:WShape.hasAll [] args [.list .int] = true := (pre_splitW hpre).1
 have hc:l.pre.holds [] { args := args } = true := (pre_splitW hpre).2
 obtain ⟨d,r,rfl,h1,h2⟩ := hasAllW_cons hsh
 obtain rfl := hasAllW_nil h2
 obtain ⟨xs,rfl,h3⟩ := hasW_list h1
 obtain ⟨ns,rfl⟩ := items_int h3
 have hlen:ns.length <= n := by
   unfold OpenLaw.pre at hc
   have h4:(WTm.not (.lt (.lit (.int (n:Int))) (.len (.arg 0)))).holds [] { args := [.list (ns.map .int)] } = true := by
     have h4 := (holds_andW hc).1
     rw [hn] at h4
     exact h4
   have h5 := condW_of h4 (w_not (w_lt w_lit (w_len_list (w_arg rfl))))
   rw [List.length_map] at h5
   refine Nat.le_of_not_lt fun q => ?_
   have q':(n:Int) < ((ns.length:Nat):Int) := by omega
   first
     | (rw [decide_eq_true q'] at h5; exact absurd h5 (by decide))
     | (simp at h5; omega)
 cases hwl with
 | cons w1 w2 =>
   cases w2
   cases w1 with
   | list ho hall => exact ⟨_,_,ns,rfl,rfl,ho,jK ns _ hall,hlen⟩
theorem WI (l:OpenLaw) (args:List WData):l.row.toRowW.claim.post args (.bool true) args = true :=
 postW_of (r := l.row.toRowW) (X := (true == true))
   (show WShape.has [] (.bool true) .bool = true by first | rfl | decide | simp [WShape.has,WShape.arms,WShape.armsAll])
   (show (WTm.eq .res (.lit (.bool true))).value [] { args := args,res := some (.bool true),after := args } = some (.bool (true == true)) from w_eq_bool (w_res rfl) w_lit) rfl
theorem Xp {l:OpenLaw} {n:Nat} {q:Program} {loose:List Str} {XP:(Str -> Option Value) -> Heap -> Prop} {YP:World -> Heap -> Prop} {d:DefRec}
   (hn:l.most = some n) (hdf:d.params.defaults = [])
   (call:∀ (w:World) (s₀ s₁:Shared) (mg mb:Str -> Option Value) (fa:Addr) (o:Obj) (pm cd doc:Value) (a:Addr) (vs:List Value) (ns:List Int),
     Ground q loose [] XP w s₀ mg mb s₁.heap -> YP w s₁.heap ->
     s₁.heap.get? fa = some o -> o.data = .func (docDef d.name d.params d.body d.scope pm cd doc) -> s₁.heap.CodeRec cd d.name -> mg d.name = some (.ref fa) ->
     s₁.heap.get? a = some { cls := .type "list",data := .seq vs.toArray } -> IntsAre vs ns -> ns.length <= n -> s₁.gens = #[] ->
     codeAny (model l.prog w) callerA (.call (.ref fa) ⟨[.ref a],[]⟩) (fun r s' => r = .ok (.ret (.bool true)) /\ OldK s₁.heap s'.heap /\ s'.os = s₁.os /\ AllBare s'.gens) s₁) :
   WalkO q loose XP YP l.row.toRowW d [] (fun f vs => PySem.call f vs) := by
 intro w s₀ s₁ mg mb G Y fa o pm cd doc dV kV ho hd hcd hD hmg hg args vals as hpre hlay hrd hwl hlo
 obtain rfl:dV = .none := Dflts.none hD hdf
 obtain rfl:kV = .none := Dflts.noKw hD
 obtain ⟨a,vs,ns,rfl,rfl,hobj,hints,hlen⟩ := WH hn hpre hwl
 refine enter_call (codeAny_mono (call w s₀ s₁ mg mb fa o pm cd doc a vs ns G Y ho (fd_plain hd) hcd hmg hobj hints hlen hg) fun r s' hq => ?_)
 obtain ⟨rfl,h2,h3,h4⟩ := hq
 exact ⟨.inl ⟨.bool true,.bool true,[],rfl,fun _ => rfl,.bool true,WI l _,fun _ => ⟨List.Pairwise.nil,fun _ hm => (nomatch hm)⟩⟩,h2,h3,h4⟩
end Att
namespace L2
open PySem PySem.Spec PyProof.Rows
theorem Zz:∀ {vs:List Value} {ns:List Int},IntsAre vs ns -> Vals (ns.map V.int) vs
 | _,_,.nil => .nil
 | _,_,.cons n t h => .cons ⟨t,rfl⟩ (Zz h)
def Only (H:Hp):Prop := ∀ b,H b = none \/ ∃ o xs,H b = some (.frz o (.lst xs))
theorem QQ {P:Program} {w:World} {K:PySem.W.Frag} {mg mb:Str -> Option Value} {CX:CXT} {k:Nat} {fa a:Addr} {fd:FuncData} {x:Str} {sp:Sp} {s₁:Shared} {vs:List Value} {ns:List Int}
   (KX:K.In s₁.heap) (hns:s₁.heap.Ns mainGlobals mg) (hb:s₁.heap.Ns builtinsNs mb) (hbb:∀ x:Str,x ≠ "__name__" -> mb x = bootBuiltins x) (hlim:s₁.heap.NoLimit) (hg:s₁.gens = #[])
   (ha:s₁.heap.get? a = some { cls := .type "list",data := .seq vs.toArray }) (hi:IntsAre vs ns) (hl:ns.length <= sizeLine) (hr:Room k callerA)
   (F:∀ base:Heap,K.In base -> base.Ns mainGlobals mg -> FnOk P w K mg base CX k fa fd [x] sp) (hbind:∀ (s:Shared) (u:Value),BindsTo s fd ⟨[u],[]⟩ [(x,u)])
   (hsp:∀ H:Hp,Only H -> SqL K H a (ns.map V.int) -> sp [.ref a] H (fun v _ => v = .bl true) fun _ _ _ => False)
   (hCX:∀ H e s',CX [] H s₁ (fun _ _ _ => False) e s' -> False) :
   codeAny (model P w) callerA (.call (.ref fa) ⟨[.ref a],[]⟩) (fun r s' => r = .ok (.ret (.bool true)) /\ OldK s₁.heap s'.heap /\ s'.os = s₁.os /\ AllBare s'.gens) s₁ := by
 have rv := Zz hi
 have lenV := hi.length
 -- from an abstract heap in which nothing but the script may be tracked
 have core:∀ H:Hp,Only H -> SqL K H a (ns.map V.int) -> HOk P w H s₁.heap -> (∀ b,H b ≠ none -> b = a) -> (H a ≠ none -> K.lookup a = none) ->
     codeAny (model P w) callerA (.call (.ref fa) ⟨[.ref a],[]⟩) (fun r s' => r = .ok (.ret (.bool true)) /\ OldK s₁.heap s'.heap /\ s'.os = s₁.os /\ AllBare s'.gens) s₁ := by
   intro H hO hS hok hA hK
   have base_of:∀ {b:Addr} {o:Obj},s₁.heap.get? b = some o -> H b = none -> (hidT s₁.heap H).get? b = some o := fun e n => QK e n
   have noA:∀ {b:Addr} {o:Obj} {es:Array DictEntry} {ep:Nat},s₁.heap.get? b = some o -> o.data = .dict es ep -> H b = none := fun {b o es ep} e d => by
     cases q:H b with
     | none => rfl
     | some u =>
       have e':b = a := hA b (by rw [q]; simp)
       subst e'
       rw [ha] at e; cases e
       have d':Data.seq vs.toArray _ = Data.dict es ep := d
       cases d'
   have nsK:∀ {b:Addr} {m:Str -> Option Value},s₁.heap.Ns b m -> (hidT s₁.heap H).Ns b m := fun {b m} ⟨o,es,ep,e,d,r⟩ => ⟨o,es,ep,base_of e (noA e d),d,r⟩
   have hKb:K.In (hidT s₁.heap H) := fun b o e => base_of (KX b o e) (by
     cases q:H b with
     | none => rfl
     | some u =>
       have e':b = a := hA b (by rw [q]; simp)
       subst e'
       rw [hK (by rw [q]; simp)] at e; cases e)
   have hM:Mod K mg (hidT s₁.heap H) := ⟨hKb,nsK hns,⟨mb,nsK hb,hbb⟩,let ⟨mc,h1,h2⟩ := hlim; ⟨mc,nsK h1,h2⟩⟩
   have e0:Env0 P w K mg (hidT s₁.heap H) callerA [] s₁ H := ⟨rfl,hM,fun b o e => JO e,Nat.le_of_eq (Wp _ _),trivial,fun b hb => absurd (show b ∈ ([]:List Addr) from hb) (by simp),hok,.of_eq hg⟩
   refine codeAny_mono ((F _ hKb (nsK hns)).run callerA [] s₁ H ⟨[.ref a],[]⟩ [.ref a] [.ref a] _ _ hr e0 (hbind s₁ (.ref a)) (.cons rfl .nil) (hsp H hO hS)) fun r s' h => ?_
   cases r with
   | error e => exact (hCX H e s' h).elim
   | ok fl =>
     cases fl with
     | next => exact False.elim h
     | brk => exact False.elim h
     | cont => exact False.elim h
     | ret u =>
       obtain ⟨v,H',os,bare,un,hok',r',q⟩ := h
       have q':v = .bl true := q
       subst q'
       obtain rfl:u = Value.bool true := r'
       refine ⟨rfl,OldK.of_keep fun b o e => ?_,os,bare⟩
       cases q:H b with
       | none => exact un.keep b o e q (by intro z; exact absurd (show b ∈ ([]:List Addr) from z) (by simp)) (by simp)
       | some u =>
         rcases hO b with z | ⟨ob,xs,z⟩
         · rw [q] at z; cases z
         · have z2 := un.frzs b ob _ z
           obtain ⟨e1,_⟩ := hok b _ z
           obtain ⟨e2,_⟩ := hok' b _ z2
           rw [e] at e1; cases e1
           exact e2
 cases hk:K.lookup a with
 | some o =>
   -- the script is one of the module's own objects
   have e := KX a o hk
   rw [ha] at e
   cases e
   refine core (fun _ => none) (fun _ => .inl rfl) (.inr ⟨_,vs.toArray,_,hk,rfl,rfl,rfl,by rw [List.size_toArray,lenV]; exact hl,by simpa using rv⟩) (fun b u z => by have z':(none:Option HO) = some u := z; cases z') (fun b z => absurd rfl z) fun z => absurd rfl z
 | none =>
   refine core (fun b => if b = a then some (.frz { cls := .type "list",data := .seq vs.toArray } (.lst (ns.map V.int))) else none) (fun b => ?_) (.inl (.inr ⟨{ cls := .type "list",data := .seq vs.toArray },if_pos rfl⟩)) (fun b u z => ?_) (fun b z => ?_) fun _ => hk
   · by_cases hb:b = a
     · exact .inr ⟨_,_,if_pos hb⟩
     · exact .inl (if_neg hb)
   · by_cases hb:b = a
     · have z' := (if_pos hb).symm.trans z
       cases z'
       subst hb
       exact ⟨ha,by rw [List.length_map]; exact hl,vs,_,rv,ha⟩
     · have z' := (if_neg hb).symm.trans z
       cases z'
   · by_cases hb:b = a
     · exact hb
     · exact absurd (if_neg hb) z
end L2
namespace L2
open PySem PySem.Spec PyProof.Rows
theorem JX {l:PySem.W.OpenLaw} {n k:Nat} {q:Program} {loose:List Str} {XP:(Str -> Option Value) -> Heap -> Prop} {YP:World -> Heap -> Prop} {d:DefRec} {K:Params -> PySem.W.Frag} {CX:World -> CXT} {sp:World -> Sp} {x:Str}
   (hn:l.most = some n) (hn2:n <= sizeLine) (hdf:d.params.defaults = []) (hr:Room k callerA)
   (hY:∀ (w:World) (h:Heap),YP w h -> (K w.params).In h)
   (F:∀ (w:World) (mg:Str -> Option Value) (fa:Addr) (h:Heap),(K w.params).In h -> h.Ns mainGlobals mg -> mg d.name = some (.ref fa) ->
     ∃ fd:FuncData,(∀ (s:Shared) (u:Value),BindsTo s fd ⟨[u],[]⟩ [(x,u)]) /\
       ∀ base:Heap,(K w.params).In base -> base.Ns mainGlobals mg -> FnOk l.prog w (K w.params) mg base (CX w) k fa fd [x] (sp w))
   (hsp:∀ (w:World) (H:Hp) (a:Addr) (ns:List Int),ns.length <= n -> Only H -> SqL (K w.params) H a (ns.map V.int) -> sp w [.ref a] H (fun v _ => v = .bl true) fun _ _ _ => False)
   (hCX:∀ (w:World) (H:Hp) (s:Shared) (e:Value) (s':Shared),CX w [] H s (fun _ _ _ => False) e s' -> False) :
   PySem.W.WalkO q loose XP YP l.row.toRowW d [] (fun f vs => PySem.call f vs) := by
 refine Att.Xp hn hdf fun w s₀ s₁ mg mb fa o pm cd doc a vs ns G Y ho hd hcd hmg hobj hints hlen hg => ?_
 have KX := hY w _ Y
 obtain ⟨fd,hb,hF⟩ := F w mg fa _ KX G.T.g hmg
 exact QQ KX G.T.g G.T.b G.T.builtins G.T.nolimit hg hobj hints (Nat.le_trans hlen hn2) hr hF hb (fun H hO hS => hsp w H a ns hlen hO hS) fun H e s' => hCX w H s₁ e s'
theorem QR {l:PySem.W.OpenLaw} {n k:Nat} {q:Program} {loose:List Str} {XP:(Str -> Option Value) -> Heap -> Prop} {YP:World -> Heap -> Prop} {d:DefRec} {K:Params -> PySem.W.Frag} {CX:CXT} {sp:PySem.W.Frag -> Sp} {x:Str}
   (hn:l.most = some n) (hn2:n <= sizeLine) (hdf:d.params.defaults = []) (hr:Room k callerA)
   (hY:∀ (w:World) (h:Heap),YP w h -> (K w.params).In h)
   (F:∀ (w:World) (mg:Str -> Option Value) (fa:Addr) (h:Heap),(K w.params).In h -> h.Ns mainGlobals mg -> mg d.name = some (.ref fa) ->
     ∃ fd:FuncData,(∀ (s:Shared) (u:Value),BindsTo s fd ⟨[u],[]⟩ [(x,u)]) /\
       ∀ base:Heap,(K w.params).In base -> base.Ns mainGlobals mg -> FnOk l.prog w (K w.params) mg base CX k fa fd [x] (sp (K w.params)))
   (hsp:∀ (K:PySem.W.Frag) (H:Hp) (a:Addr) (ns:List Int),ns.length <= n -> Only H -> SqL K H a (ns.map V.int) -> sp K [.ref a] H (fun v _ => v = .bl true) fun _ _ _ => False)
   (hCX:∀ (H:Hp) (s:Shared) (e:Value) (s':Shared),CX [] H s (fun _ _ _ => False) e s' -> False) :
   PySem.W.WalkO q loose XP YP l.row.toRowW d [] (fun f vs => PySem.call f vs) :=
 JX (K := K) (CX := fun _ => CX) (sp := fun w => sp (K w.params)) hn hn2 hdf hr hY F (fun w H a ns h1 h2 h3 => hsp (K w.params) H a ns h1 h2 h3) fun _ H s e s' => hCX H s e s'
end L2
namespace L2
open PySem PySem.Spec PyProof.Rows
def zt (s:Stmt):Arguments := match s with
 | .FunctionDef _ a _ _ _ _ _ _ _ _ => a
 | _ => { posonlyargs := [],args := [],vararg := none,kwonlyargs := [],kw_defaults := [],kwarg := none,defaults := [] }
def zo (s:Stmt):List Stmt := match s with
 | .FunctionDef _ _ b _ _ _ _ _ _ _ => b
 | _ => []
def ze (s:Stmt):Scope := match s with
 | .FunctionDef _ _ _ _ _ _ sc _ _ _ => sc
 | _ => { kind := .function,names := [],isGenerator := false,isCoroutine := false }
abbrev CX0:CXT := fun _ _ _ _ _ _ => False
abbrev E0:XK := fun _ _ _ => False
theorem zB {X:Cx}:qj CX0 X E0 := fun _ _ _ _ _ _ _ h => h.elim
structure Fun (K:PySem.W.Frag) (x qual:Str) (st:Stmt) (f:Addr) (fd:FuncData):Prop where
 ex:∃ (oc:Value) (od:Option Addr) (kV doc pm:Value) (an:Option Addr) (cdv ct:Value) (osl:Array (Option Value)),
   fd = PySem.W.fnOf x qual (zt st) (zo st) (ze st) .none kV doc pm an cdv ct /\ K.lookup f = some ⟨oc,od,.func fd,osl⟩ /\ PySem.W.codeIn K cdv qual = true
 kp:PySem.W.keepIn K (.ref f) = true
section
variable {P:Program} {w:World} {K:PySem.W.Frag} {mg:Str -> Option Value} {base:Heap}
theorem Fun.ok {x qual:Str} {st:Stmt} {f:Addr} {fd:FuncData} {N ps:List Str} {k:Nat} {sp:Sp} (F:Fun K x qual st f fd) (S:zu N ps (ze st)) (len:∀ vs H Q E,sp vs H Q E -> vs.length = ps.length)
   (hbody:∀ (cdv:Value) (A:Around) (outer:List Env) (s:Shared) (H:Hp) (vs:List V) (Q:VK) (E:XK),Room k (A.deeper (envOfC qual (ze st) s.heap.objs.size f cdv)) -> sp vs H Q E ->
     ∃ t,PSs (cxOf CX0 P w K mg base N qual (ze st) f cdv A outer s H E).nox (zo st) t /\ t { nx := fun _ H' => Q .non H',rt := Q } (start N vs) H):FnOk P w K mg base CX0 (k + 1) f fd ps sp := by
 obtain ⟨oc,od,kV,doc,pm,an,cdv,ct,osl,rfl,lk,hcd⟩ := F.ex
 refine JA lk hcd S len fun A outer s H vs Q E hr hsp => ?_
 obtain ⟨t,h,q⟩ := hbody cdv A outer s H vs Q E hr hsp
 exact ⟨t,h.nox,q⟩
theorem Fun.binds {x qual:Str} {st:Stmt} {f:Addr} {fd:FuncData} {ps:List Str} (F:Fun K x qual st f fd)
   (h:∀ (kV doc pm:Value) (an:Option Addr) (cdv ct:Value) (us:List Value),us.length = ps.length -> bindArgs (PySem.W.fnOf x qual (zt st) (zo st) (ze st) .none kV doc pm an cdv ct) ⟨us,[]⟩ = pure (ps.zip us)):Binds K fd ps [] := by
 obtain ⟨oc,od,kV,doc,pm,an,cdv,ct,osl,rfl,lk,hcd⟩ := F.ex
 exact .all (h kV doc pm an cdv ct)
theorem zD {x qual:Str} {st:Stmt} {f:Addr} {oc:Value} {od an:Option Addr} {osl:Array (Option Value)} {kV doc pm cdv ct:Value} (l:K.lookup f = some ⟨oc,od,.func (PySem.W.fnOf x qual (zt st) (zo st) (ze st) .none kV doc pm an cdv ct),osl⟩)
   (c:PySem.W.codeIn K cdv qual = true) (k:PySem.W.keepIn K (.ref f) = true):Fun K x qual st f (PySem.W.fnOf x qual (zt st) (zo st) (ze st) .none kV doc pm an cdv ct) := ⟨⟨oc,od,kV,doc,pm,an,cdv,ct,osl,rfl,l,c⟩,k⟩
end
section
variable {X:Cx}
theorem pv (i:Nat) {x:Str} {pos:Pos} (hN:X.N[i]? = some x := by rfl) (hv:Vis X.env.scope x := by first | exact Or.inl rfl | exact Or.inr (Or.inl rfl) | exact Or.inr (Or.inr rfl)) (hd:(x == ("__debug__" : Str)) = false := by decide)
   (hcd:(x == ("__classdict__" : Str)) = false := by decide):PE X (.Name x pos) (tVar i) := zaX hN hv hd hcd
end
theorem iteF {A B:Prop} (h:B):if false = true then A else B := by
 rw [if_neg Bool.false_ne_true]
 exact h
theorem iteT {A B:Prop} (h:A):if true = true then A else B := by
 rw [if_pos rfl]
 exact h
theorem ite2 {c A B:Prop} [Decidable c] (h1:c -> A) (h2:¬ c -> B):if c then A else B := by
 by_cases h:c
 · rw [if_pos h]
   exact h1 h
 · rw [if_neg h]
   exact h2 h
def Same (H H':Hp):Prop := ∀ b o,H b = some o -> H' b = some o
theorem Same.refl (H:Hp):Same H H := fun _ _ h => h
theorem Same.trans {H H1 H2:Hp} (a:Same H H1) (b:Same H1 H2):Same H H2 := fun c o h => b c o (a c o h)
theorem Same.free {H H':Hp} (e:Same H H') {l:Addr} (h:H' l = Option.none):H l = Option.none := by
 cases q:H l with
 | none => rfl
 | some o =>
   rw [e l o q] at h
   cases h
theorem Same.seq {K:PySem.W.Frag} {H H':Hp} {a:Addr} {xs:List V} (e:Same H H') (h:SqL K H a xs):SqL K H' a xs := by
 rcases h with (h | ⟨o,h⟩) | h
 · exact .inl (.inl (e _ _ h))
 · exact .inl (.inr ⟨o,e _ _ h⟩)
 · exact .inr h
end L2
namespace L2
open PySem PySem.Spec PyProof.Rows
theorem PS.nox {X:Cx} {st:Stmt} {t:TS} (h:PS X.nox st t):PS X st t := fun pins s σ H D I hw =>
 wpAny_mono (h pins s σ H D (I.wish _) hw) (fun _ _ q => q.unwish) fun _ _ z => False.elim z
theorem yj.some_ {P:Program} {w:World} {H:Hp} {h:Heap} {a:Addr} {o:HO} (x:yj P w H h a o):∃ ob,h.get? a = some ob := by
 cases o with
 | lst xs => obtain ⟨_,_,_,_,e⟩ := x; exact ⟨_,e⟩
 | tup xs => obtain ⟨_,_,_,ob,e,_⟩ := x; exact ⟨_,e⟩
 | dK kvs => obtain ⟨_,_,_,_,o,_,_,e,_⟩ := x; exact ⟨_,e⟩
 | dT kvs => obtain ⟨_,_,_,_,o,_,_,e,_⟩ := x; exact ⟨_,e⟩
 | set S n => obtain ⟨o,_,_,_,e,_⟩ := x; exact ⟨_,e⟩
 | ins C dx fs => obtain ⟨_,_,_,e,_⟩ := x; exact ⟨_,e⟩
 | own y => obtain ⟨_,e⟩ := x; exact ⟨_,e⟩
 | xd fs => obtain ⟨_,⟨_,_,_,e,_⟩,_⟩ := x; exact ⟨_,e⟩
 | rng lo hi => obtain ⟨_,_,_,e⟩ := x; exact ⟨_,e⟩
 | frz ob u => obtain ⟨e,_⟩ := x; exact ⟨_,e⟩
 | tbl ps => exact ⟨_,(show h.get? a = some _ from x)⟩
 | met f y => exact ⟨_,(show h.get? a = some _ from x)⟩
 | ext φ => obtain ⟨_,⟨_,e⟩,_⟩ := x; exact ⟨_,e⟩
theorem Inv.there {X:Cx} {pins:List (Addr × Obj)} {σ:St} {H:Hp} {s:Shared} (I:Inv X pins σ H s) {a:Addr} {o:HO} (e:H a = some o):∃ ob,s.heap.get? a = some ob := (I.hok a o e).some_
theorem Inv.none_of {X:Cx} {pins:List (Addr × Obj)} {σ:St} {H:Hp} {s:Shared} (I:Inv X pins σ H s) {a:Addr} (e:s.heap.get? a = none):H a = none := by
 cases q:H a with
 | none => rfl
 | some o =>
   obtain ⟨ob,z⟩ := I.there q
   rw [e] at z
   cases z
structure Fly (h0 h:Heap) (H:Hp) (C ea T:Addr):Prop where
 ob:∃ (oe:Obj) (vs:Array Value) (a0:Value) (oT:Obj) (ts:Array Value),h.get? ea = some oe /\ oe.cls = .ref C /\ oe.data = .fields vs /\ vs[0]? = some a0 /\ vs[1]? = some (.ref T) /\ h.get? T = some oT /\ oT.data = .fields ts /\ ts[3]? = some .none
 ne:T ≠ ea
 fe:H ea = none
 fT:H T = none
 ne0:h0.get? ea = none
 nT0:h0.get? T = none
def CXE (P:Program) (w:World):CXT := fun outer H s E e s' => ∃ (ea T C:Addr) (H':Hp),e = .ref ea /\ s'.os = s.os /\ AllBare s'.gens /\ Un (frs outer) [] H H' s.heap s'.heap /\ HOk P w H' s'.heap /\ Fly s.heap s'.heap H' C ea T /\ E (.ref C) none H'
theorem xx {P:Program} {w:World} {X:Cx}:qj (CXE P w) X E0 := fun _ _ _ _ _ _ _ ⟨_,_,_,_,_,_,_,_,_,_,z⟩ => z.elim
structure Exc (K:PySem.W.Frag) (mg:Str -> Option Value) (x:Str) (C:Addr):Prop where
 bound:mg x = some (.ref C)
 ex:PySem.W.excIn K C [.type "ValueError",.type "Exception",.type "BaseException",.type "object"] "ValueError.__new__" = true
theorem JY {K:PySem.W.Frag} {h:Heap} {C:Addr} {bmB:List Value} {newId:String} (X:K.In h) (q:PySem.W.excIn K C bmB newId = true) :
   ∃ bm N nm qn bs hdct sn sub ab col dd k0 k1 k2 k3 k5 mN,h.get? C = some (excClassObj nm qn C N bs bm hdct sn sub ab col dd k0 k1 k2 k3 k5 newId) /\ h.Ns N mN /\ mN "__init__" = none /\ OwnTail h bmB bm := by
 unfold PySem.W.excIn at q
 split at q
 case h_2 => cases q
 case h_1 dd cd sl ho =>
   split at q
   case h_2 => cases q
   case h_1 C' bm k0 k1 k2 k3 n k5 hm hs =>
     simp only [Bool.and_eq_true,beq_iff_eq,Bool.not_eq_true'] at q
     obtain ⟨⟨⟨⟨⟨e1,e2⟩,e3⟩,e4⟩,e5⟩,e6⟩ := q
     subst e1 e2
     cases cd with
     | mk nm bs mro ns qn hd sn sub ab col del =>
       have hsl:sl = #[k0,k1,k2,k3,some (.builtin n),k5] := by rw [<- Array.toList_inj]; exact hs
       simp only at hm e3 e5 e6
       subst hm e3 hsl
       exact ⟨bm,ns,nm,qn,bs,hd,sn,sub,ab,col,dd,k0,k1,k2,k3,k5,_,X _ _ ho,.of_isNs (PySem.W.isNs_of_in X e5),PySem.W.nsMap_none_of_in X e5 e6,PySem.W.tail_of_in X e4⟩
def za3 (C:Addr) (t:TA) (E:XK):TS := fun _ σ H => t σ H fun xs H1 => xs.length <= sizeLine /\ E (.ref C) none H1
theorem Inv.hid {X:Cx} {pins:List (Addr × Obj)} {σ:St} {H:Hp} {s:Shared} (I:Inv X pins σ H s) (as:List Addr) (hs:∀ b ∈ frs X.stack,b ∈ as):s.heap.FunFrames (PySem.W.hideAll s.heap as) X.stack :=
 PySem.W.funFrames_hide I.stack fun env he a hf => hs a (List.mem_filterMap.mpr ⟨env,he,hf⟩)
section
variable {P:Program} {w:World} {K:PySem.W.Frag} {mg:Str -> Option Value} {base:Heap} {N:List Str} {qual:Str} {scope:Scope} {f:Addr} {cd:Value} {A:Around} {outer:List Env} {s₀:Shared} {H₀:Hp} {E:XK}
theorem Xq {pins:List (Addr × Obj)} {σ:St} {H:Hp} {s:Shared} {C e:Addr} {vs:List Value} {h':Heap} (I:Inv (cxOf (CXE P w) P w K mg base N qual scope f cd A outer s₀ H₀ E) pins σ H s)
   (hx:Heap.MadeExcOf s.heap h' e (.ref C) vs) (q:E (.ref C) none H):(cxOf (CXE P w) P w K mg base N qual scope f cd A outer s₀ H₀ E).xe (.ref e) { s with heap := h' } := by
 have hin:∀ b ∈ frs (envOfC qual scope s₀.heap.objs.size f cd :: outer),b ∈ frs (envOfC qual scope s₀.heap.objs.size f cd :: outer) := fun _ z => z
 have ff := I.hid _ hin
 show wpAny _ _ (leaving _ _) _ _ _
 refine wpAny_leaves_madeW (base := PySem.W.hideAll s.heap (frs (envOfC qual scope s₀.heap.objs.size f cd :: outer))) (h := s.heap) I.ok.frames rfl (fun b o z => PySem.W.of_hideAll _ z) ff hx fun h2 t fl tt tn up => ?_
 have inB:∀ b o,b ∉ frs (envOfC qual scope s₀.heap.objs.size f cd :: outer) -> s.heap.get? b = some o -> h2.get? b = some o := fun b o nb z => fl.1 b o (PySem.W.hideAll_get _ z nb)
 have upS:∀ b o,b ∈ frs (envOfC qual scope s₀.heap.objs.size f cd :: outer) -> s.heap.get? b = some o -> ∃ sl,h2.get? b = some { o with slots := sl } := fun b o nb z => by
   obtain ⟨_,o',z',hd⟩ := I.stack.mem nb
   rw [z] at z'
   cases z'
   exact up b o (hx.keeps b o z) hd
 have notL:∀ b o,s₀.heap.get? b = some o -> b ∉ frs outer -> b ∉ frs (envOfC qual scope s₀.heap.objs.size f cd :: outer) := fun b o z nb m => by
   rcases List.mem_cons.mp (I.stkSub b m) with z' | z'
   · have := Heap.lt_size z
     have z':b = s₀.heap.objs.size := z'
     rw [z'] at this
     exact Nat.lt_irrefl _ this
   · exact nb z'
 have thr:∀ b o,s.heap.get? b = some o -> ∃ o',h2.get? b = some o' := fun b o z => by
   by_cases hb:b ∈ frs (envOfC qual scope s₀.heap.objs.size f cd :: outer)
   · obtain ⟨sl,z'⟩ := upS b o hb z
     exact ⟨_,z'⟩
   · exact ⟨o,inB b o hb z⟩
 obtain ⟨_,_,_,oe,vs',T,oT,ts,a1,⟨a2,a3⟩,a4,a5,a6,a7,a8,a9,a10⟩ := fl
 have noT:s.heap.get? T = none := by
   cases z:s.heap.get? T with
   | none => rfl
   | some o =>
     by_cases hb:T ∈ frs (envOfC qual scope s₀.heap.objs.size f cd :: outer)
     · obtain ⟨_,o',z',hd⟩ := I.stack.mem hb
       obtain ⟨sl,z2⟩ := upS T o hb z
       rw [z] at z'
       cases z'
       rw [a8] at z2
       cases z2
       exact absurd a9 (hd ts)
     · rw [PySem.W.hideAll_get _ z hb] at a6
       cases a6
 have no0:∀ b,s.heap.get? b = none -> s₀.heap.get? b = none := fun b z => by
   cases y:s₀.heap.get? b with
   | none => rfl
   | some o =>
     obtain ⟨o',z'⟩ := I.base.there b o y (fun m => nomatch m)
     rw [z] at z'
     cases z'
 refine ⟨e,T,C,H,rfl,I.os,I.bare,⟨fun b o z n nb _ => ?_,fun b o z n nb _ => ?_,fun b o z n _ => I.base.free b o z n (fun m => nomatch m),fun b o z _ => ?_,I.base.tups,I.base.frzs,I.base.tbls⟩,fun a o z => ?_,
   ⟨⟨oe,vs',.ref t,oT,ts,a1,a2,a4,a3,a5,a8,a9,a10⟩,a7,I.none_of hx.new,I.none_of noT,no0 _ hx.new,no0 _ noT⟩,q⟩
 · exact inB b o (notL b o z nb) (I.base.keep b o z n nb (fun m => nomatch m))
 · obtain ⟨sl,z1⟩ := I.base.slot b o z n nb (fun m => nomatch m)
   obtain ⟨sl',z2⟩ := upS b _ (by
     show b ∈ frs _
     unfold frs
     rw [List.filterMap_cons]
     exact List.mem_cons_of_mem _ nb) z1
   exact ⟨sl',z2⟩
 · obtain ⟨o',z'⟩ := I.base.there b o z (fun m => nomatch m)
   exact thr b o' z'
 · refine (I.hok a o z).stay (fun b u hb r => ?_) (fun _ y => y) fun _ _ y => y
   refine inB b u (fun m => ?_) r
   have := I.stkFree b m
   rcases hb with rfl | hb
   · rw [z] at this; cases this
   · rw [hb] at this; cases this
theorem xm {x:Str} {C:Addr} {e:Expr} {es:List Expr} {t:TA} {np cpos pos:Pos} (ex:Exc K mg x C) (hh:A.handled = none) (hg:Gl (cxOf (CXE P w) P w K mg base N qual scope f cd A outer s₀ H₀ E) x)
   (ha:PA (cxOf (CXE P w) P w K mg base N qual scope f cd A outer s₀ H₀ E) (e :: es) t)
   (hs:starEach (e :: es) (envOfC qual scope s₀.heap.objs.size f cd) = (false,eval e (envOfC qual scope s₀.heap.objs.size f cd)) :: starEach es (envOfC qual scope s₀.heap.objs.size f cd) := by rfl)
   (hpl:(backTo cpos (starEach es (envOfC qual scope s₀.heap.objs.size f cd))).any (·.1) = false := by rfl) (hd:(x == ("__debug__" : Str)) = false := by decide) :
   PS (cxOf (CXE P w) P w K mg base N qual scope f cd A outer s₀ H₀ E) (.Raise (some (.Call (.Name x np) (e :: es) [] cpos)) none pos) (za3 C t E) := by
 intro pins s σ H D I h
 obtain ⟨bm,N',nm,qn,bs,hdct,sn,sub,ab,col,dd,k0,k1,k2,k3,k5,mN,hC,hN,hni,TL⟩ := JY (h := base) I.mod.kin ex.ex
 refine wpAny_Raise_call_subT (C := C) (nm := nm) (q := qn) (N := N') (bs := bs) (bm := bm) (hdct := hdct) (sn := sn) (sub := sub) (ab := ab) (col := col) (dd := dd) (k0 := k0) (k1 := k1) (k2 := k2) (k3 := k3) (k5 := k5)
   PySem.F.excBase_ValueError (mN := mN) (TL.hasType PySem.F.excBase_ValueError.hasBase) hh (by
     show (backTo cpos (starEach (e :: es) (envOfC qual scope s₀.heap.objs.size f cd))).any (·.1) = false
     rw [hs]
     show (false || (backTo cpos (starEach es (envOfC qual scope s₀.heap.objs.size f cd))).any (·.1)) = false
     rw [hpl]
     rfl) hni (j3 I hg ex.bound ⟨rfl,?_⟩ hd)
 have h1 := ha cpos pins s σ H _ I h
 show wpAny _ _ (evalArgs (.ref C) true (backTo cpos (starEach (e :: es) (envOfC qual scope s₀.heap.objs.size f cd))) []) _ _ _
 have h1:wpAny _ _ (spliced (backTo cpos (starEach (e :: es) (envOfC qual scope s₀.heap.objs.size f cd)))) _ _ s := h1
 rw [hs] at h1 ⊢
 refine Calls.evalArgs_plain (wpAny_mono h1 (fun us s2 ⟨xs,H2,I2,r,z,q⟩ => ⟨rfl,?_,I2.bk _ _ hC,hN.keeps I2.bk,TL.keeps I2.bk,fun h' e' hx => ?_⟩) fun _ _ y => y)
 · rw [<- r.length]; exact z
 · exact Xq I2 hx q
end
theorem Fun.okE {P:Program} {w:World} {K:PySem.W.Frag} {mg:Str -> Option Value} {base:Heap} {x qual:Str} {st:Stmt} {f:Addr} {fd:FuncData} {N ps:List Str} {k:Nat} {sp:Sp} (F:Fun K x qual st f fd) (S:zu N ps (ze st)) (len:∀ vs H Q E,sp vs H Q E -> vs.length = ps.length)
   (hbody:∀ (cdv:Value) (A:Around) (outer:List Env) (s:Shared) (H:Hp) (vs:List V) (Q:VK) (E:XK),Room k (A.deeper (envOfC qual (ze st) s.heap.objs.size f cdv)) -> A.handled = none -> sp vs H Q E ->
     ∃ t,PSs (cxOf (CXE P w) P w K mg base N qual (ze st) f cdv A outer s H E) (zo st) t /\ t { nx := fun _ H' => Q .non H',rt := Q } (start N vs) H):FnOk P w K mg base (CXE P w) (k + 1) f fd ps sp := by
 obtain ⟨oc,od,kV,doc,pm,an,cdv,ct,osl,rfl,lk,hcd⟩ := F.ex
 exact JA lk hcd S len fun A outer s H vs Q E hr hsp => hbody cdv A outer s H vs Q E hr hr.hd hsp
end L2
namespace L2
open PySem PySem.Spec PyProof.Rows
theorem Inv.track {X:Cx} {pins:List (Addr × Obj)} {σ:St} {H:Hp} {s:Shared} {p:Addr} {o:HO} (I:Inv X pins σ H s) (hn:H p = none) (h0:X.s₀.heap.get? p = none) (hl:p ≠ X.env.locals)
   (hc:∀ x c,X.env.cells.lookup x = some c -> c ≠ p) (hp:∀ q ∈ X.pn ++ pins,q.1 ≠ p) (new:yj X.prog X.w (upd H p o) s.heap p o):Inv X pins σ (upd H p o) s where
 ok := I.ok
 os := I.os
 bare := I.bare
 base := ⟨I.base.keep,I.base.slot,fun b ob e n hx => by
     rw [zp (fun z => by rw [z,h0] at e; cases e)]
     exact I.base.free b ob e n hx,I.base.there,
   fun b xs e => by rw [zp (zI (I.base.tups b xs e) hn)]; exact I.base.tups b xs e,
   fun b ob u e => by rw [zp (zI (I.base.frzs b ob u e) hn)]; exact I.base.frzs b ob u e,
   fun b ps e => by
     obtain ⟨m,z⟩ := I.base.tbls b ps e
     exact ⟨m,by rw [zp (zI z hn)]; exact z⟩⟩
 loc := I.loc
 cell := I.cell
 free := by rw [zp hl.symm]; exact I.free
 freeC := fun x c e => by rw [zp (hc x c e)]; exact I.freeC x c e
 pin := fun q m => by
   obtain ⟨a,b,c⟩ := I.pin q m
   exact ⟨a,by rw [zp (hp q m)]; exact b,c⟩
 hok := fun b u e => by
   by_cases hb:b = p
   · subst hb
     rw [zc] at e
     cases e
     exact new
   · rw [zp hb] at e
     exact (I.hok b u e).stay (fun _ _ _ q => q) (fun c q => by rw [zp (zI q hn)]; exact q) fun c xs q => by rw [zp (zI q hn)]; exact q
 len := I.len
theorem Inv.turned2 {X:Cx} {pins:List (Addr × Obj)} {σ:St} {H:Hp} {s:Shared} {h':Heap} {t':Nat} {i j:Addr} (I:Inv X pins σ H s) (k:∀ b o,b ≠ i -> b ≠ j -> s.heap.get? b = some o -> h'.get? b = some o) (fi:FpOk X pins H i) (fj:FpOk X pins H j) :
   Inv X pins σ H { s with heap := h',toks := t' } := by
 obtain ⟨a0,a1,a2,a3,a4,a5⟩ := fi
 obtain ⟨b0,b1,b2,b3,b4,b5⟩ := fj
 have nit:∀ b u,H b = some u -> b ≠ i /\ b ≠ j := fun b u e => ⟨(fun z => by rw [z,a0] at e; cases e),(fun z => by rw [z,b0] at e; cases e)⟩
 have kk:∀ b o,b ∉ [i,j] -> s.heap.get? b = some o -> h'.get? b = some o := fun b o m e => k b o (fun z => m (by simp [z])) (fun z => m (by simp [z])) e
 refine I.step (g' := s.gens) (d' := s.drawn) (ch := [i,j]) (fun b hb => ?_) (fun b o _ _ m e _ => kk b o m e) (fun b o _ _ m e _ => ⟨o.slots,kk b o m e⟩) (fun _ _ _ _ n => n) (fun b o m e => ⟨o,kk b o m e⟩) (fun _ _ e => e) (fun _ _ _ e => e)
   (fun b ps e => ⟨#[],by rw [e]; simp⟩) (fun m hm => ?_) (fun b u e => ?_) I.bare
 · rcases List.mem_cons.mp hb with rfl | hb
   · exact ⟨a3,a1,a4,a5⟩
   · obtain rfl := List.mem_singleton.mp hb
     exact ⟨b3,b1,b4,b5⟩
 · obtain ⟨o,es,ep,ho,r⟩ := hm
   exact ⟨o,es,ep,k _ o a1.symm b1.symm ho,r⟩
 · refine (I.hok b u e).stay (fun c v hc q => k c v ?_ ?_ q) (fun _ q => q) fun _ _ q => q
   · rcases hc with z | z
     · rw [z]; exact (nit b u e).1
     · exact (nit c _ z).1
   · rcases hc with z | z
     · rw [z]; exact (nit b u e).2
     · exact (nit c _ z).2
end L2
namespace L2
open PySem PySem.Spec PyProof.Rows
theorem getD_at {α:Type} {xs:List α} {i:Nat} {d:α} (h:i < xs.length):xs.getD i d = xs[i] := by
 rw [List.getD_eq_getElem?_getD,List.getElem?_eq_getElem h]
 rfl
section
variable {X:Cx}
theorem xA {ns:List Int} {its:List Value} (r:Vals (ns.map V.int) its):∀ (i:Nat) (v:Value),its.toArray[i]? = some v -> ∃ t,v = Value.int (ns.getD i 0) t := by
 intro i v e
 rw [List.getElem?_toArray] at e
 have hl := r.length
 have hi:i < its.length := (List.getElem?_eq_some_iff.mp e).1
 rw [List.length_map] at hl
 have hx:(ns.map V.int)[i]? = some (.int (ns.getD i 0)) := by
   rw [List.getElem?_map,List.getElem?_eq_getElem (by omega)]
   simp [List.getD,show i < ns.length by omega]
 obtain ⟨u,hu,ru⟩ := r.get hx
 rw [e] at hu
 cases hu
 exact ru
theorem jo {ns:List Int} {k:Nat} (h:k < ns.length):ns.getD k 0 ∈ ns := by
 rw [getD_at h]
 exact List.getElem_mem h
theorem Yr {ns:List Int} {z:Int} (h:z ∈ ns):∃ j,j < ns.length /\ ns.getD j 0 = z := by
 obtain ⟨j,hj,e⟩ := List.mem_iff_getElem.mp h
 exact ⟨j,hj,by rw [getD_at hj]; exact e⟩
theorem yE {xs:List V} {us:List Value} (r:Vals xs us) {j:Nat} (h1:j < us.length):RelV (xs.getD j .non) us[j] := by
 have hl := r.length
 obtain ⟨u,hu,ru⟩ := r.get (i := j) (x := xs.getD j .non) (by rw [List.getElem?_eq_getElem (by omega),getD_at (by omega)])
 rw [List.getElem?_eq_getElem h1] at hu
 cases hu
 exact ru
end
end L2
namespace Srt
open PySem.W PyProof.Rows
def Run (key:Nat -> Int) (n:Nat) {α:Type} (Q:α -> Prop):KasT α -> Prop
 | .ret a => Q a
 | .ask i j k => i < n /\ j < n /\ Run key n Q (k (decide (key i < key j)))
theorem Run.mono {key:Nat -> Int} {n:Nat} {α:Type} {Q Q':α -> Prop} (h:∀ a,Q a -> Q' a):∀ (t:KasT α),Run key n Q t -> Run key n Q' t
 | .ret a,x => h a x
 | .ask _ _ k,⟨a,b,x⟩ => ⟨a,b,Run.mono h _ x⟩
theorem Run.bind {key:Nat -> Int} {n:Nat} {α β:Type} {Q:β -> Prop} {f:α -> KasT β}:∀ (t:KasT α),Run key n (fun a => Run key n Q (f a)) t -> Run key n Q (t.bind f)
 | .ret a,x => x
 | .ask _ _ k,⟨a,b,x⟩ => ⟨a,b,Run.bind _ x⟩
theorem n1 {m f n:Nat} (h:m + (f + 1) <= n):m < n := Nat.lt_of_lt_of_le (Nat.lt_add_of_pos_right (Nat.succ_pos f)) h
theorem n2 {m f n:Nat} (h:m + (f + 1) <= n):m - 1 < n := Nat.lt_of_le_of_lt (Nat.sub_le m 1) (n1 h)
theorem n3 (m f:Nat):m + 1 + f = m + (f + 1) := by rw [Nat.add_assoc,Nat.add_comm 1 f]
theorem n3' {m f n:Nat} (h:m + (f + 1) <= n):m + 1 + f <= n := (n3 m f).symm ▸ h
theorem n4 {i m:Nat} (h:i < m + 1) (e:¬ i = m):i < m := Nat.lt_of_le_of_ne (Nat.le_of_lt_succ h) e
theorem n6 {r m f:Nat} (h:r <= m + 1 + f):r <= m + (f + 1) := n3 m f ▸ h
theorem n7 {r m f:Nat} (h:r = m + 1 + f):r = m + (f + 1) := n3 m f ▸ h
theorem n8 {i m:Nat} (a:m <= i) (b:i < m + 1):i = m := Nat.le_antisymm (Nat.le_of_lt_succ b) a
section
variable {key:Nat -> Int} {n:Nat}
structure Ord (n:Nat) (p:Array Nat):Prop where
 sz:p.size = n
 pm:p.Perm (List.toArray (List.range n))
theorem Ord.lt {p:Array Nat} (o:Ord n p) {i:Nat} (h:i < n):p.getD i 0 < n := by
 have hi:i < p.size := by rw [o.sz]; exact h
 have e:p.getD i 0 = p[i] := by simp [Array.getD,hi]
 have m:p[i] ∈ p := Array.getElem_mem hi
 have m2:p[i] ∈ (List.toArray (List.range n)) := (Array.Perm.mem_iff o.pm).mp m
 rw [e]
 simpa using m2
def kv (key:Nat -> Int) (p:Array Nat) (i:Nat):Int := key (p.getD i 0)
theorem xY {p q:Array Nat} {i j:Nat} (h:p[i]? = q[j]?):kv key p i = kv key q j := by
 unfold kv
 rw [Array.getD_eq_getD_getElem?,Array.getD_eq_getD_getElem?,h]
theorem Ord.rev {p:Array Nat} (o:Ord n p) (i j:Nat):Ord n (kas_rev p i j) := ⟨by unfold kas_rev; rw [mirror_size]; exact o.sz,(mirror_perm _ _ _ _).trans o.pm⟩
theorem Ord.bub {p:Array Nat} (o:Ord n p) (i j:Nat):Ord n (bubble p i j) := ⟨by rw [bubble_size]; exact o.sz,(bubble_perm _ _ _).trans o.pm⟩
theorem jL {p:Array Nat} {i j:Nat} (hj:j <= p.size) (k:Nat):kv key (kas_rev p i j) k = if i <= k /\ k < j then kv key p (i + j - 1 - k) else kv key p k := by
 have e := getElem?_mirror_all (i := i) hj k
 unfold kas_rev
 by_cases h:i <= k /\ k < j
 · rw [if_pos h] at e ⊢; exact xY e
 · rw [if_neg h] at e ⊢; exact xY e
theorem WJ {p:Array Nat} {src d:Nat} (hs:src < p.size) (hd:d <= src) (k:Nat):kv key (bubble p src d) k = if k = src - d then kv key p src else if src - d < k /\ k <= src then kv key p (k - 1) else kv key p k := by
 have e := getElem?_bubble hs d hd k
 by_cases h1:k = src - d
 · rw [if_pos h1] at e ⊢; exact xY e
 · rw [if_neg h1] at e ⊢
   by_cases h2:src - d < k /\ k <= src
   · rw [if_pos h2] at e ⊢; exact xY e
   · rw [if_neg h2] at e ⊢; exact xY e
def Up (key:Nat -> Int) (p:Array Nat) (m:Nat):Prop := ∀ i,1 <= i -> i < m -> kv key p (i - 1) <= kv key p i
def Down (key:Nat -> Int) (p:Array Nat) (m:Nat):Prop := ∀ i,1 <= i -> i < m -> kv key p i <= kv key p (i - 1)
theorem Up.le {p:Array Nat} {m:Nat} (u:Up key p m):∀ {i j:Nat},i <= j -> j < m -> kv key p i <= kv key p j := by
 intro i j h hj
 induction j with
 | zero => (have:i = 0 := Nat.le_zero.mp h; subst this; exact Int.le_refl _)
 | succ j ih =>
   by_cases e:i = j + 1
   · subst e; exact Int.le_refl _
   · exact Int.le_trans (ih (Nat.le_of_lt_succ (Nat.lt_of_le_of_ne h e)) (Nat.lt_of_succ_lt hj)) (u (j + 1) (Nat.succ_le_succ (Nat.zero_le j)) hj)
theorem Down.le {p:Array Nat} {m:Nat} (u:Down key p m):∀ {i j:Nat},i <= j -> j < m -> kv key p j <= kv key p i := by
 intro i j h hj
 induction j with
 | zero => (have:i = 0 := Nat.le_zero.mp h; subst this; exact Int.le_refl _)
 | succ j ih =>
   by_cases e:i = j + 1
   · subst e; exact Int.le_refl _
   · exact Int.le_trans (u (j + 1) (Nat.succ_le_succ (Nat.zero_le j)) hj) (ih (Nat.le_of_lt_succ (Nat.lt_of_le_of_ne h e)) (Nat.lt_of_succ_lt hj))
theorem Za {p:Array Nat} (o:Ord n p):∀ (f m:Nat),1 <= m -> m + f <= n -> Up key p m -> Run key n (fun r => m <= r /\ r <= m + f /\ Up key p r /\ (r = m + f \/ (r < n /\ kv key p r < kv key p (r - 1)))) (kas_asc p f m)
 | 0,m,h1,h2,u => ⟨Nat.le_refl _,Nat.le_refl _,u,.inl rfl⟩
 | f + 1,m,h1,h2,u => by
   refine ⟨o.lt (n1 h2),o.lt (n2 h2),?_⟩
   by_cases c:key (p.getD m 0) < key (p.getD (m - 1) 0)
   · rw [decide_eq_true c]; dsimp only; (try rw [if_pos rfl])
     exact ⟨Nat.le_refl _,Nat.le_add_right _ _,u,.inr ⟨n1 h2,c⟩⟩
   · rw [decide_eq_false c]; dsimp only; (try rw [if_neg Bool.false_ne_true])
     have u':Up key p (m + 1) := fun i i1 i2 => by
       by_cases e:i = m
       · subst e; exact Int.not_lt.mp c
       · exact u i i1 (n4 i2 e)
     refine Run.mono (fun r ⟨a,b,d,e⟩ => ⟨Nat.le_of_succ_le a,n6 b,d,?_⟩) _ (Za o f (m + 1) (Nat.succ_le_succ (Nat.zero_le m)) (n3' h2) u')
     rcases e with e | e
     · exact .inl (n7 e)
     · exact .inr e
def Flat (key:Nat -> Int) (p:Array Nat) (m q:Nat):Prop := q + 1 <= m /\ ∀ i,m - (q + 1) <= i -> i < m -> kv key p i = kv key p (m - 1)
theorem Ys {p:Array Nat} {m q:Nat} (hm:m <= p.size) (f:Flat key p m q) (k:Nat):kv key (kas_rev p (m - (q + 1)) m) k = kv key p k := by
 rw [jL hm]
 split
 · rename_i h
   rw [f.2 k h.1 h.2,f.2 _ (by omega) (by omega)]
 · rfl
theorem wR:∀ (f:Nat) (p:Array Nat) (m q:Nat),Ord n p -> m + f <= n -> Down key p m -> Flat key p m q ->
   Run key n (fun r => Ord n r.1 /\ m <= r.2.1 /\ r.2.1 <= n /\ Down key r.1 r.2.1 /\ Flat key r.1 r.2.1 r.2.2) (kas_desc f p m q)
 | 0,p,m,q,o,h,d,fl => ⟨o,Nat.le_refl _,h,d,fl⟩
 | f + 1,p,m,q,o,h,d,fl => by
   have h1:1 <= m := Nat.le_trans (Nat.succ_le_succ (Nat.zero_le q)) fl.1
   refine ⟨o.lt (n1 h),o.lt (n2 h),?_⟩
   by_cases c:key (p.getD m 0) < key (p.getD (m - 1) 0)
   · rw [decide_eq_true c]; dsimp only; (try rw [if_pos rfl])
     by_cases hq:q > 0
     · rw [if_pos hq]
       have kr := Ys (key := key) (p := p) (m := m) (q := q) (by rw [o.sz]; exact Nat.le_of_lt (n1 h)) fl
       refine Run.mono (fun r ⟨a,b,e⟩ => ⟨a,Nat.le_of_succ_le b,e⟩) _ (wR f _ (m + 1) 0 (o.rev _ _) (n3' h) (fun i i1 i2 => ?_) ⟨Nat.succ_le_succ (Nat.zero_le m),fun i i1 i2 => ?_⟩)
       · rw [kr,kr]
         by_cases e:i = m
         · subst e; exact Int.le_of_lt c
         · exact d i i1 (n4 i2 e)
       · have:i = m := n8 i1 i2
         subst this; rfl
     · rw [if_neg hq]
       refine Run.mono (fun r ⟨a,b,e⟩ => ⟨a,Nat.le_of_succ_le b,e⟩) _ (wR f _ (m + 1) 0 o (n3' h) (fun i i1 i2 => ?_) ⟨Nat.succ_le_succ (Nat.zero_le m),fun i i1 i2 => ?_⟩)
       · by_cases e:i = m
         · subst e; exact Int.le_of_lt c
         · exact d i i1 (n4 i2 e)
       · have:i = m := n8 i1 i2
         subst this; rfl
   · rw [decide_eq_false c]; dsimp only; (try rw [if_neg Bool.false_ne_true])
     refine ⟨o.lt (n2 h),o.lt (n1 h),?_⟩
     by_cases c2:key (p.getD (m - 1) 0) < key (p.getD m 0)
     · rw [decide_eq_true c2]; dsimp only; (try rw [if_pos rfl])
       exact ⟨o,Nat.le_refl _,Nat.le_of_lt (n1 h),d,fl⟩
     · rw [decide_eq_false c2]; dsimp only; (try rw [if_neg Bool.false_ne_true])
       have ee:kv key p m = kv key p (m - 1) := Int.le_antisymm (Int.not_lt.mp c2) (Int.not_lt.mp c)
       refine Run.mono (fun r ⟨a,b,e⟩ => ⟨a,Nat.le_of_succ_le b,e⟩) _ (wR f _ (m + 1) (q + 1) o (n3' h) (fun i i1 i2 => ?_) ⟨Nat.succ_le_succ fl.1,fun i i1 i2 => ?_⟩)
       · by_cases e:i = m
         · subst e; rw [ee]; exact Int.le_refl _
         · exact d i i1 (n4 i2 e)
       · show kv key p i = kv key p m
         by_cases e:i = m
         · subst e; rfl
         · rw [ee]; exact fl.2 i (by rw [Nat.succ_sub_succ] at i1; exact i1) (n4 i2 e)
def Good (key:Nat -> Int) (n:Nat) (r:Nat × Array Nat):Prop := Ord n r.2 /\ 1 <= r.1 /\ r.1 <= n /\ Up key r.2 r.1
theorem ZA {p:Array Nat} {m:Nat} (o:Ord n p) (h1:1 <= m) (h:m <= n) (d:Down key p m):Run key n (Good key n) (kas_tail3 m n p) := by
 have e9:m + (n - m) = n := Nat.add_sub_cancel' h
 refine Run.bind _ (Run.mono (fun r ⟨a,b,e,_⟩ => ⟨o.rev _ _,Nat.le_trans h1 a,Nat.le_trans b (Nat.le_of_eq e9),e⟩) _ (Za (o.rev 0 m) (n - m) m h1 (Nat.le_of_eq e9) fun i i1 i2 => ?_))
 have i3:i - 1 < m := Nat.lt_of_le_of_lt (Nat.sub_le i 1) i2
 rw [jL (by rw [o.sz]; exact h),jL (by rw [o.sz]; exact h),if_pos ⟨Nat.zero_le _,i3⟩,if_pos ⟨Nat.zero_le _,i2⟩]
 exact d.le (Nat.sub_le_sub_left (Nat.sub_le i 1) _) (Nat.lt_of_le_of_lt (Nat.sub_le _ _) (by rw [Nat.zero_add]; exact Nat.sub_lt h1 Nat.one_pos))
theorem qk {p:Array Nat} {m:Nat} (o:Ord n p) (h1:1 <= m) (h:m + 1 <= n) (d:Down key p (m + 1)):Run key n (Good key n) (kas_descPart m n p) := by
 have fl0:Flat key p (m + 1) 0 := ⟨Nat.succ_le_succ (Nat.zero_le m),fun i i1 i2 => by
   have e:i = m := n8 i1 i2
   rw [e]; rfl⟩
 refine Run.bind _ (Run.mono (fun r ⟨a,b,c,e,f⟩ => ?_) _ (wR (n - (m + 1)) p (m + 1) 0 o (by rw [Nat.add_sub_cancel' h]; exact Nat.le_refl _) d fl0))
 by_cases q:r.2.2 > 0
 · rw [if_pos q]
   have kr := Ys (key := key) (p := r.1) (m := r.2.1) (q := r.2.2) (by rw [a.sz]; exact c) f
   exact ZA (a.rev _ _) (Nat.le_trans (Nat.succ_le_succ (Nat.zero_le m)) b) c fun i i1 i2 => by rw [kr,kr]; exact e i i1 i2
 · rw [if_neg q]
   exact ZA a (Nat.le_trans (Nat.succ_le_succ (Nat.zero_le m)) b) c e
theorem WK {p:Array Nat} (o:Ord n p) (h:1 <= n):Run key n (Good key n) (kas_count n p) := by
 refine Run.bind _ (Run.mono (fun r ⟨a,b,c,e⟩ => ?_) _ (Za o (n - 1) 1 (Nat.le_refl _) (by rw [Nat.add_sub_cancel' h]; exact Nat.le_refl _) fun i i1 i2 => absurd i1 (Nat.not_le.mpr i2)))
 have h9:1 + (n - 1) = n := Nat.add_sub_cancel' h
 rw [h9] at b e
 by_cases q:(r == n) = true
 · rw [if_pos q]
   exact ⟨o,a,b,c⟩
 · rw [if_neg q]
   have q':r ≠ n := fun z => q (by rw [z]; exact beq_self_eq_true n)
   have e':r < n /\ kv key p r < kv key p (r - 1) := by
     rcases e with e | e
     · exact absurd e q'
     · exact e
   split
   · rename_i hr
     refine ⟨o.lt h,o.lt (Nat.lt_of_le_of_lt (Nat.sub_le r 1) e'.1),?_⟩
     by_cases c2:key (p.getD 0 0) < key (p.getD (r - 1) 0)
     · rw [decide_eq_true c2]; dsimp only; (try rw [if_pos rfl])
       exact ⟨o,a,b,c⟩
     · rw [decide_eq_false c2]; dsimp only; (try rw [if_neg Bool.false_ne_true])
       have fl:∀ i,i < r -> kv key p i = kv key p 0 := fun i hi => by
         have x1 := c.le (i := 0) (j := i) (Nat.zero_le i) hi
         have x2 := c.le (i := i) (j := r - 1) (Nat.le_sub_one_of_lt hi) (Nat.sub_lt a Nat.one_pos)
         have x3:kv key p (r - 1) <= kv key p 0 := Int.not_lt.mp c2
         exact Int.le_antisymm (Int.le_trans x2 x3) x1
       have kr:∀ k,kv key (kas_rev p 0 r) k = kv key p k := fun k => by
         rw [jL (by rw [o.sz]; exact b)]
         split
         · rename_i hk
           rw [fl _ (Nat.lt_of_le_of_lt (Nat.sub_le _ k) (by rw [Nat.zero_add]; exact Nat.sub_lt a Nat.one_pos)),fl k hk.2]
         · rfl
       refine qk (o.rev _ _) a e'.1 fun i i1 i2 => ?_
       rw [kr,kr]
       by_cases z:i = r
       · subst z; exact Int.le_of_lt e'.2
       · rw [fl i (n4 i2 z),fl (i - 1) (Nat.lt_of_le_of_lt (Nat.sub_le i 1) (n4 i2 z))]; exact Int.le_refl _
   · have hr:r = 1 := by omega
     refine qk o a e'.1 fun i i1 i2 => ?_
     have:i = r := by omega
     subst this
     exact Int.le_of_lt e'.2
theorem mid_ {l r:Nat} (h:l < r):(l + r) / 2 < r /\ l <= (l + r) / 2 := by omega
theorem zbX {l r f m:Nat} (a:m < r) (h:r - l <= f + 1):m - l <= f := by omega
theorem zbY {l r f m:Nat} (a:l <= m) (h:r - l <= f + 1):r - (m + 1) <= f := by omega
theorem ql {p:Array Nat} {k:Nat} (o:Ord n p) (hk:k < n) (u:Up key p k):∀ (f l r:Nat),l <= r -> r <= k -> r - l <= f -> (∀ i,i < l -> kv key p i <= kv key p k) -> (∀ i,r <= i -> i < k -> kv key p k < kv key p i) ->
   Run key n (fun m => m <= k /\ (∀ i,i < m -> kv key p i <= kv key p k) /\ (∀ i,m <= i -> i < k -> kv key p k < kv key p i)) (kas_place p k f l r)
 | 0,l,r,h1,h2,h3,a,b => ⟨Nat.le_trans h1 h2,a,fun i i1 i2 => b i (Nat.le_trans (Nat.le_of_sub_eq_zero (Nat.le_zero.mp h3)) i1) i2⟩
 | f + 1,l,r,h1,h2,h3,a,b => by
   unfold kas_place
   by_cases c:l ≥ r
   · rw [if_pos c]
     exact ⟨Nat.le_trans h1 h2,a,fun i i1 i2 => b i (Nat.le_trans c i1) i2⟩
   · rw [if_neg c]
     have hm:(l + r) / 2 < r /\ l <= (l + r) / 2 := mid_ (Nat.not_le.mp c)
     have hmk := Nat.lt_of_lt_of_le hm.1 h2
     refine ⟨o.lt hk,o.lt (Nat.lt_trans hmk hk),?_⟩
     by_cases c2:key (p.getD k 0) < key (p.getD ((l + r) / 2) 0)
     · rw [decide_eq_true c2]; dsimp only; (try rw [if_pos rfl])
       refine ql o hk u f l _ hm.2 (Nat.le_of_lt hmk) (zbX hm.1 h3) a fun i i1 i2 => ?_
       exact Int.lt_of_lt_of_le c2 (u.le i1 i2)
     · rw [decide_eq_false c2]; dsimp only; (try rw [if_neg Bool.false_ne_true])
       refine ql o hk u f _ r hm.1 h2 (zbY hm.2 h3) (fun i i1 => ?_) b
       exact Int.le_trans (u.le (j := (l + r) / 2) (Nat.le_of_lt_succ i1) hmk) (Int.not_lt.mp c2)
theorem Xx:∀ (f:Nat) (p:Array Nat) (k:Nat),Ord n p -> 1 <= k -> k + f = n -> Up key p k -> Run key n (fun r => Ord n r /\ Up key r n) (kas_bin f p k)
 | 0,p,k,o,h1,h,u => by
   have:k = n := h
   subst this
   exact ⟨o,u⟩
 | f + 1,p,k,o,h1,h,u => by
   have hk:k < n := n1 (Nat.le_of_eq h)
   refine Run.bind _ (Run.mono (fun m ⟨a,b,c⟩ => ?_) _ (ql o hk u k 0 k (Nat.zero_le k) (Nat.le_refl _) (Nat.sub_le k 0) (fun i hi => absurd hi (Nat.not_lt_zero i)) fun i i1 i2 => absurd i1 (Nat.not_le.mpr i2)))
   refine Xx f _ (k + 1) (o.bub _ _) (Nat.succ_le_succ (Nat.zero_le k)) ((n3 k f).trans h) fun i i1 i2 => ?_
   rw [WJ (by rw [o.sz]; exact hk) (Nat.sub_le k m),WJ (by rw [o.sz]; exact hk) (Nat.sub_le k m),Nat.sub_sub_self a]
   have ik:i <= k := Nat.le_of_lt_succ i2
   have il:i - 1 < i := Nat.sub_lt i1 Nat.one_pos
   rcases Nat.lt_trichotomy i m with q | q | q
   · rw [if_neg (Nat.ne_of_lt (Nat.lt_trans il q)),if_neg (fun z => Nat.lt_asymm q (Nat.lt_trans z.1 il)),if_neg (Nat.ne_of_lt q),if_neg (fun z => Nat.lt_asymm q z.1)]
     exact u i i1 (Nat.lt_of_lt_of_le q a)
   · subst q
     rw [if_neg (Nat.ne_of_lt il),if_neg (fun z => Nat.lt_asymm il z.1),if_pos rfl]
     exact b _ il
   · rw [if_neg (show ¬ i = m from Nat.ne_of_gt q),if_pos (show m < i /\ i <= k from ⟨q,ik⟩)]
     by_cases z:i - 1 = m
     · rw [if_pos z,z]
       exact Int.le_of_lt (c m (Nat.le_refl _) (Nat.lt_of_lt_of_le q ik))
     · have w := Nat.lt_of_le_of_ne (Nat.le_sub_one_of_lt q) (Ne.symm z)
       rw [if_neg z,if_pos ⟨w,Nat.le_of_lt (Nat.lt_of_lt_of_le il ik)⟩]
       exact u (i - 1) (Nat.le_trans (Nat.succ_le_succ (Nat.zero_le m)) w) (Nat.lt_of_lt_of_le il ik)
theorem QS (h:1 <= n):Run key n (fun r => Ord n r /\ Up key r n) (kas_sort n) := by
 refine Run.bind _ (Run.mono (fun r ⟨a,b,c,d⟩ => ?_) _ (WK ⟨by simp,Array.Perm.refl _⟩ h))
 split
 · have e:max r.1 1 = r.1 := by omega
   rw [e]
   exact Xx _ _ _ a b (by omega) d
 · have e:r.1 = n := by omega
   rw [e] at d
   exact ⟨a,d⟩
end
end Srt
namespace L2
open PySem PySem.Spec PyProof.Rows PySem.W
theorem ZB {key:Nat -> Int} {n:Nat} {α:Type} {cmp:Nat -> Nat -> (Bool -> Shared -> Prop) -> Shared -> Prop} {s:Shared} {Q:α -> Prop}
   (hc:∀ i j C,i < n -> j < n -> C (decide (key i < key j)) s -> cmp i j C s):∀ (t:KasT α),Srt.Run key n Q t -> t.kasWp cmp (fun a s' => Q a /\ s' = s) s
 | .ret a,x => ⟨x,rfl⟩
 | .ask i j k,⟨h1,h2,x⟩ => hc i j _ h1 h2 (ZB hc _ x)
section
variable {X:Cx} {pins:List (Addr × Obj)} {σ:St} {H:Hp} {s:Shared}
structure jM (X:Cx) (pins:List (Addr × Obj)) (b:Addr):Prop where
 lo:b ≠ X.env.locals
 fs:b ∉ X.fs
 ge:b ∈ X.ex \/ X.s₀.heap.objs.size <= b
 ce:∀ x c,X.env.cells.lookup x = some c -> c ≠ b
 pi:∀ p ∈ X.pn ++ pins,p.1 ≠ b
theorem Inv.young (I:Inv X pins σ H s) {b:Addr} (hb:s.heap.objs.size <= b):jM X pins b := by
 obtain ⟨_,a1,a2,a3,a4,a5⟩ := I.fpOk (b := b) hb (H' := fun _ => none) rfl
 exact ⟨a1,a2,a3,a4,a5⟩
theorem Inv.record (I:Inv X pins σ H s) {b:Addr} {h':Heap} (y:jM X pins b) (hn:H b = none) (hs:Heap.SameBut b s.heap h'):Inv X pins σ H { s with heap := h' } :=
 I.turned (t' := s.toks) (fun c o nc e => (hs.2 c nc).trans e) hn y.lo y.ge y.ce y.pi
end
end L2
namespace L2
open PySem PySem.Spec PyProof.Rows PySem.W
end L2
namespace L2
open PySem PySem.Spec PyProof.Rows PySem.W Builtin.Getset_descriptor
def wc (ea C:Addr):Heap -> Prop := fun h => ∃ o,h.get? ea = some o /\ o.cls = .ref C
theorem wc.ty {M:Model} {h:Heap} {ea C:Addr} (x:wc ea C h):Looks M h (typeOf (.ref ea)) (.ref C) := by
 obtain ⟨o,e,c⟩ := x
 rw [<- c]
 exact (Looks.ld e).andThen .now
section
variable {prog:Program} {w:World} {A:Around} {E:Value -> Shared -> Prop} {K:Frag} {x C:Addr}
theorem Z3 {s:Shared} {tp:Value} {R:Result -> Shared -> Prop} (X:K.In s.heap) (J:wc x C s.heap) (hm:mroIn K C (.type "object") = some true) (q:R (.ok (.ret (.ref C))) s) :
   codeAny (model prog w) A (.call (.builtin "getset_descriptor.__get__") ⟨[.builtin "object.__class__",.ref x,tp],[]⟩) R s := by
 obtain ⟨h0,g0,d0,t0,o0⟩ := s
 have LT := J.ty (M := model prog w)
 have LM := looks_mroIn (M := model prog w) X hm
 refine codeAny_call_builtin KF.slot_gs.plain KF.entry_gs ?_
 refine KF.slot_gs.check _ _ _ _ _ _ _ _ KF.type_class (KF.args_gs _ _ _) ?_
 unfold Builtin.«getset_descriptor.__get__»
 unfold descrGet
 rw [dga_obj]
 refine wpAny_bind ?_
 refine wpAny_pure ?_
 unfold descrGetter
 unfold descrCheckInstance
 unfold descrNameAndClass
 unfold isInstance
 simp only [KF.owner_class]
 repeat lk
 refine ⟨Code.quiet_builtin _ (by decide +kernel),?_⟩
 refine codeAny_builtin KF.entry_class ?_
 unfold Builtin.«object.__class__»
 unfold shownTypeOf
 repeat lk
 exact q
structure qm (K:Frag) (C:Addr):Prop where
 ga:findIn K (.ref C) "__getattribute__" = some (some (.builtin "BaseException.__getattribute__"))
 gn:findIn K (.ref C) "__getattr__" = some none
 ha:findIn K (.ref C) "__class__" = some (some (.builtin "object.__class__"))
 hn:specialIn K (.builtin "object.__class__") "__get__" = some (some (.builtin "getset_descriptor.__get__"))
 tk:takesIn K (.builtin "object.__class__") = some true
 mo:mroIn K C (.type "object") = some true
 mb:mroIn K C (.type "BaseException") = some true
 ty:typeIn K (.ref C) = some (.type "type")
 cl:(clsIn K C).isSome = true
theorem QT {M:Model} {h:Heap} (X:K.In h) (J:wc x C h) (c:qm K C):Looks M h (Builtin.ObjectAttr.find (.ref x) (.ref C) "__class__") (.bind (.builtin "getset_descriptor.__get__") (.builtin "object.__class__")) := by
 have L1 := looks_findIn (M := M) X c.ha
 have L2:Looks M h (Builtin.ObjectAttr.getOf (some (.builtin "object.__class__"))) (some (.builtin "getset_descriptor.__get__")) := looks_specialIn X c.hn
 have L3 := looks_takesIn (M := M) X c.tk
 exact L1.andThen (L2.andThen ((show Looks M h (Builtin.ObjectAttr.dataDescriptor? (some (.builtin "object.__class__")) (some (.builtin "getset_descriptor.__get__"))) (some (.builtin "getset_descriptor.__get__",.builtin "object.__class__")) from L3.andThen .now).andThen (Looks.tag .now)))
theorem WL {s:Shared} {tk:Tok} {R:Result -> Shared -> Prop} (X:K.In s.heap) (J:wc x C s.heap) (c:qm K C) (q:R (.ok (.ret (.ref C))) s) :
   codeAny (model prog w) A (.call (.builtin "BaseException.__getattribute__") ⟨[.ref x,.str "__class__" tk],[]⟩) R s := by
 obtain ⟨h0,g0,d0,t0,o0⟩ := s
 have LT := J.ty (M := model prog w)
 have LF := QT (M := model prog w) X J c
 have LB := looks_mroIn (M := model prog w) X c.mb
 refine codeAny_call_builtin PySem.F.attr_ValueError.ga.plain PySem.F.entry_bexc_ga ?_
 have hk:builtinKind "BaseException.__getattribute__" = some .slot := by decide +kernel
 have hsp:splitId "BaseException.__getattribute__" = some ("BaseException","__getattribute__") := by decide +kernel
 have hao := PySem.F.args_bexc_ga (.ref x) (.str "__class__" tk)
 simp only [checkBuiltinCall,hk,hsp]
 refine wpAny_bind ?_
 unfold isInstance
 repeat (any_goals (first | assumption | with_reducible refine Looks.at (by assumption) ?_ | wp_step))
 refine Z3 X J c.mo ?_
 repeat (any_goals (first | assumption | wp_step))
theorem QU {s:Shared} {Q:Option Value -> Shared -> Prop} (X:K.In s.heap) (J:wc x C s.heap) (c:qm K C) (q:Q (some (.ref C)) { s with toks := s.toks + 1 }):wpAny (model prog w) A (getAttr? (.ref x) "__class__") Q E s := by
 obtain ⟨h0,g0,d0,t0,o0⟩ := s
 have LT := J.ty (M := model prog w)
 have L1 := looks_findIn (M := model prog w) X c.ga
 have L2 := looks_findIn (M := model prog w) X c.gn
 have f3 := PySem.F.attr_ValueError.ga.bind (.ref x)
 have hx2:(Value.builtin "BaseException.__getattribute__" == Value.builtin "object.__getattribute__") = false := by decide +kernel
 have hx1:(onTheHeap (Value.ref C) && Value.builtin "BaseException.__getattribute__" == Value.builtin "object.__getattribute__") = false := by rw [hx2]; rfl
 unfold getAttr? getAttrBy?
 repeat (any_goals (first | assumption | with_reducible refine Looks.at (by assumption) ?_ | wp_step))
 refine WL X J c ?_
 repeat (any_goals (first | assumption | wp_step))
theorem QV (c:qm K C):KitX K (.ref x) (.ref C) (wc x C) where
 ty := fun _ _ _ J => J.ty
 it := fun M h X _ => by
   obtain ⟨cd,hc⟩ := Option.isSome_iff_exists.mp c.cl
   unfold clsIn at hc
   split at hc
   · rename_i a1 a2 a3 a4 ho
     intro A' Q' E' s' k z
     unfold isType loadHead
     exact wpAny_bind (wpAny_loadPart (k _ _ (X _ _ ho)) (wpAny_pure z))
   · cases hc
 ne := fun h tp dd its n sl X htp => by
   obtain ⟨cd,hc⟩ := Option.isSome_iff_exists.mp c.cl
   refine Bool.eq_false_iff.mpr fun q => ?_
   obtain rfl:C = tp := Value.ref.inj (beq_iff_eq.mp q)
   unfold clsIn at hc
   split at hc
   · rename_i a1 a2 a3 a4 ho
     have z := (X _ _ ho).symm.trans htp
     cases z
   · cases hc
 ca := fun X J k => QU X J c k
end
end L2
namespace L2
open PySem PySem.Spec PyProof.Rows PySem.W
end L2
namespace L2
open PySem PySem.Spec PyProof.Rows
end L2
namespace L2
open PySem PySem.Spec PyProof.Rows
def Evl (t:TE) (σ:St) (H:Hp) (v:V):Prop := ∀ Q:VK,Q v H -> t σ H Q
def Tst (t:TT) (σ:St) (H:Hp) (p:Prop) [Decidable p]:Prop := ∀ Q:Bool -> Hp -> Prop,Q (decide p) H -> t σ H Q
section
variable {σ:St} {H:Hp} {ta tb tc:TE} {x y v:V} {i j k:Int} {K:PySem.W.Frag} {D:Ends} {n m:Nat}
theorem zl {i:Nat} (h:σ[i]? = some (some v)):Evl (tVar i) σ H v := fun Q q => ⟨v,h,q⟩
theorem zU:Evl (tC v) σ H v := fun Q q => q
theorem zS {g:Int -> Int -> V} (a:Evl ta σ H (.int i)) (b:Evl tb σ H (.int j)):Evl (tOp (rI0 g) ta tb) σ H (g i j) := fun Q q => a _ (b _ ⟨i,j,rfl,rfl,q⟩)
theorem JB {C:Int -> Int -> Prop} {g:Int -> Int -> V} (a:Evl ta σ H (.int i)) (b:Evl tb σ H (.int j)) (c:C i j):Evl (tOp (rI C g) ta tb) σ H (g i j) := fun Q q => a _ (b _ ⟨i,j,rfl,rfl,c,q⟩)
theorem zbZ {g:Int -> V} (a:Evl ta σ H (.int i)):Evl (tUn (rU g) ta) σ H (g i) := fun Q q => a _ ⟨i,rfl,q⟩
theorem wp (a:Evl ta σ H (.int i)) (b:Evl tb σ H (.int j)):Evl (tOp rEq ta tb) σ H (.bl (decide (i = j))) := fun Q q => a _ (b _ ⟨rfl,by
 have e:decide (V.int i = V.int j) = decide (i = j) := by
   rw [decide_eq_decide]
   exact ⟨fun z => V.int.inj z,fun z => by rw [z]⟩
 rw [e]
 exact q⟩)
theorem yo {p:Addr} {xs:List V} (a:Evl ta σ H (.ref p)) (b:Evl tb σ H (.int i)) (h:SqT K H p xs) (e:atI xs i = some v):Evl (tOp (rIxT K) ta tb) σ H v := fun Q q => a _ (b _ ⟨p,xs,i,v,rfl,rfl,h,e,q⟩)
theorem xc {p:Addr} {xs:List V} (a:Evl ta σ H (.ref p)) (b:Evl tb σ H (.int i)) (h:SqL K H p xs) (e:atI xs i = some v):Evl (tOp (rIxL K) ta tb) σ H v := fun Q q => a _ (b _ ⟨p,xs,i,v,rfl,rfl,h,e,q⟩)
theorem yu {p:Addr} {ys:List V} (a:Evl ta σ H (.ref p)) (h:SqL K H p ys):Evl (tCB (fun xs H Q => ∃ p ys,xs = [.ref p] /\ (SqL K H p ys \/ SqT K H p ys) /\ Q (.int ys.length) H) (xi ta tNil)) σ H (.int ys.length) := fun Q q => a _ ⟨p,ys,rfl,.inl h,q⟩
theorem WM {g:Int -> Int -> V} (a:Evl ta σ H (.int i)) (b:Evl tb σ H (.int j)):Evl (tCB (fun xs H Q => ∃ i j,xs = [.int i,.int j] /\ Q (g i j) H) (xi ta (xi tb tNil))) σ H (g i j) := fun Q q => a _ (b _ ⟨i,j,rfl,q⟩)
theorem WN {f g:Int -> Int -> Bool} (a:Evl ta σ H (.int i)) (b:Evl tb σ H (.int j)) (c:Evl tc σ H (.int k)):Evl (Yh (rI0 fun i j => .bl (f i j)) (rI0 fun i j => .bl (g i j)) ta tb tc) σ H (.bl (f i j && g j k)) := fun Q q => a _ (b _ ⟨i,j,rfl,rfl,_,rfl,by
 cases e:f i j with
 | true =>
   rw [if_pos rfl]
   rw [e,Bool.true_and] at q
   exact c _ ⟨j,k,rfl,rfl,q⟩
 | false =>
   rw [if_neg Bool.false_ne_true]
   rw [e,Bool.false_and] at q
   exact q⟩)
theorem zZ {p:Prop} [Decidable p] (a:Evl ta σ H (.bl (decide p))):Tst (jG ta) σ H p := fun Q q => a _ ⟨_,rfl,q⟩
theorem JZ {t u:TT} {p q:Prop} [Decidable p] [Decidable q] (a:Tst t σ H p) (b:Tst u σ H q):Tst (tAnd t u) σ H (p /\ q) := fun Q z => a _ (by
 by_cases h:p
 · rw [decide_eq_true h,if_pos rfl]
   refine b _ ?_
   have e:decide (p /\ q) = decide q := by rw [decide_eq_decide]; exact ⟨fun z => z.2,fun z => ⟨h,z⟩⟩
   rw [<- e]; exact z
 · rw [decide_eq_false h,if_neg Bool.false_ne_true]
   have e:decide (p /\ q) = false := decide_eq_false fun z => h z.1
   rw [<- e]; exact z)
theorem WO {t u:TT} {p q:Prop} [Decidable p] [Decidable q] (a:Tst t σ H p) (b:Tst u σ H q):Tst (tOr t u) σ H (p \/ q) := fun Q z => a _ (by
 by_cases h:p
 · rw [decide_eq_true h,if_pos rfl]
   have e:decide (p \/ q) = true := decide_eq_true (.inl h)
   rw [<- e]; exact z
 · rw [decide_eq_false h,if_neg Bool.false_ne_true]
   refine b _ ?_
   have e:decide (p \/ q) = decide q := by rw [decide_eq_decide]; exact ⟨fun z => z.resolve_left h,.inr⟩
   rw [<- e]; exact z)
theorem J0 {t:TT} {p:Prop} [Decidable p] (a:Tst t σ H p):Tst (tNot t) σ H (¬ p) := fun Q z => a _ (by
 have e:(!decide p) = decide (¬ p) := by simp
 show Q (!decide p) H
 rw [e]; exact z)
theorem xK {t:TT} {a b:TS} {p:Prop} [Decidable p] (h:Tst t σ H p) (h1:p -> a D σ H) (h2:¬ p -> b D σ H):tIfS t a b D σ H := h _ (by
 by_cases c:p
 · rw [decide_eq_true c,if_pos rfl]; exact h1 c
 · rw [decide_eq_false c,if_neg Bool.false_ne_true]; exact h2 c)
theorem jN {t:TT} {a b u:TS} {p:Prop} [Decidable p] (h:Tst t σ H p) (h1:p -> a { D with nx := u D } σ H) (h2:¬ p -> b { D with nx := u D } σ H):tSeq (tIfS t a b) u D σ H := xK h h1 h2
theorem wq {i:Nat} {u:TS} (h:Evl ta σ H v) (q:u D (σ.set i (some v)) H):tSeq (tAsg ta (z6 i)) u D σ H := h _ q
theorem Yt {t1 t2 t3 t4:TE} {v1 v2 v3 v4:V} {Q:VK} (h1:Evl t1 σ H v1) (h2:Evl t2 σ H v2) (h3:Evl t3 σ H v3) (h4:Evl t4 σ H v4) (q:∀ p,H p = none -> Q (.ref p) (upd H p (.tup [v1,v2,v3,v4]))) :
   tTup (xi t1 (xi t2 (xi t3 (xi t4 tNil)))) σ H Q := h1 _ (h2 _ (h3 _ (h4 _ ⟨by show 4 <= sizeLine; decide,q⟩)))
theorem zY (h:D.nx σ H):Jy D σ H := h
theorem run_seq {t u:TS} (h:t { D with nx := u D } σ H):tSeq t u D σ H := h
end
end L2
namespace L2
open PySem PySem.Spec PyProof.Rows PySem.W
inductive TyX (K:Frag) (H:Hp):V -> Value -> Prop where
 | of {x:V} {t:Value} (h:TyOf K H x t):TyX K H x t
 | exc {ea C:Addr} (e:H ea = some (.ext (wc ea C))) (c:qm K C):TyX K H (.ref ea) (.ref C)
def clsV:V -> Value
 | .ref a => .ref a
 | .ty n => .type n
 | _ => .none
def JC:V -> Bool
 | .ref _ => true
 | .ty _ => true
 | _ => false
theorem QW:∀ {c:V} {u:Value},JC c = true -> RelV c u -> u = clsV c
 | .ref _,_,_,r => r
 | .ty _,_,_,r => r
section
variable {X:Cx}
theorem J1 {pins:List (Addr × Obj)} {σ:St} {H:Hp} {s:Shared} {x:V} {u t:Value} (I:Inv X pins σ H s) (rx:RelV x u) (ty:TyX X.K H x t):∃ J,KitX X.K u t J /\ J s.heap /\ u ≠ .builtin "__main__.__loader__#opaque" := by
 cases ty with
 | exc e c =>
   cases (show u = Value.ref _ from rx)
   obtain ⟨J,_⟩ := I.hok _ _ e
   exact ⟨_,QV c,J,fun z => nomatch z⟩
 | of ty =>
   cases ty with
   | non => cases (show u = Value.none from rx); exact ⟨_,kitx_none,True.intro,fun z => nomatch z⟩
   | bl y => cases (show u = Value.bool y from rx); exact ⟨_,kitx_bool,True.intro,fun z => nomatch z⟩
   | int i => obtain ⟨t,q⟩ := (show ∃ t,u = Value.int i t from rx); cases q; exact ⟨_,kitx_int,True.intro,fun z => nomatch z⟩
   | str y => obtain ⟨t,q⟩ := (show ∃ t,u = Value.str y t from rx); cases q; exact ⟨_,kitx_str,True.intro,fun z => nomatch z⟩
   | flt y => obtain ⟨t,q⟩ := (show ∃ t,u = Value.float y t from rx); cases q; exact ⟨_,kitx_float,True.intro,fun z => nomatch z⟩
   | @lst a xs ea =>
     cases (show u = Value.ref a from rx)
     obtain ⟨_,_,n,_,h1⟩ := (show yj X.prog X.w H s.heap a (.lst xs) from I.hok a _ ea)
     exact ⟨_,kitx_list,⟨_,h1,rfl⟩,fun z => nomatch z⟩
   | @frz a ob xs ea =>
     cases (show u = Value.ref a from rx)
     obtain ⟨_,_,_,n,_,h1⟩ := (show yj X.prog X.w H s.heap a (.frz ob (.lst xs)) from I.hok a _ ea)
     exact ⟨_,kitx_list,⟨_,h1,rfl⟩,fun z => nomatch z⟩
   | @tup a xs ea =>
     cases (show u = Value.ref a from rx)
     obtain ⟨_,_,_,p⟩ := (show yj X.prog X.w H s.heap a (.tup xs) from I.hok a _ ea)
     obtain ⟨o,h1,h2,_⟩ := p
     exact ⟨_,kitx_tuple,⟨o,h1,h2⟩,fun z => nomatch z⟩
   | @dK a kvs ea =>
     cases (show u = Value.ref a from rx)
     obtain ⟨_,_,vs,_,p⟩ := (show yj X.prog X.w H s.heap a (.dK kvs) from I.hok a _ ea)
     obtain ⟨o,es,ep,h1,h2,_⟩ := p
     exact ⟨_,kitx_dict,⟨o,h1,h2.1⟩,fun z => nomatch z⟩
   | @dT a kvs ea =>
     cases (show u = Value.ref a from rx)
     obtain ⟨_,_,xs,_,o,es,ep,h1,h2,_⟩ := (show yj X.prog X.w H s.heap a (.dT kvs) from I.hok a _ ea)
     exact ⟨_,kitx_dict,⟨o,h1,h2.1⟩,fun z => nomatch z⟩
   | @ins a C dx fs ea cl ha hn htk hm =>
     cases (show u = Value.ref a from rx)
     obtain ⟨mA,O,_⟩ := JQ I.hok ea
     obtain ⟨od,J,_⟩ := O.look
     exact ⟨_,kitx_own (cl.get _) cl.hd ha hn htk hm,J,fun z => nomatch z⟩
theorem yh:yx X (.builtin "isinstance") (fun xs H Q => ∃ x c t b,xs = [x,c] /\ JC c = true /\ TyX X.K H x t /\ kitOne X.K t (clsV c) = some b /\ Q (.bl b) H) := by
 intro pins s σ H xs us Q I r h
 obtain ⟨x,c,t,b,rfl,hc,ty,e,q⟩ := h
 obtain ⟨u,v,rfl,r1,r2⟩ := vals2 r
 rw [QW hc r2]
 obtain ⟨J,Z,hJ,hx⟩ := J1 I r1 ty
 exact kia_one Z I.kIn hJ e hx fun tk => ⟨.bl b,H,I.tok tk,rfl,q⟩
end
end L2
namespace L2
open PySem PySem.Spec PyProof.Rows PySem.W
end L2
namespace L2
open PySem PySem.Spec PyProof.Rows
section
variable {X:Cx}
theorem WP {pins:List (Addr × Obj)} {σ:St} {H:Hp} {s:Shared} {a:Addr} {its:List Value} (I:Inv X pins σ H s) (tp:s.heap.IsList a its.toArray) (hc:X.calm = true) {Q:Value -> Shared -> Prop}
   (q:∀ s2:Shared,s2 = { s with heap := s.heap.push { cls := .type "list_iterator",data := .fields #[.ref a,.int 0 0] } } -> Walks X.prog X.w X.A.in1 s.heap.objs.size [s.heap.objs.size,a] [s.heap.objs.size] its.toArray.size (fun i v => its.toArray[i]? = some v) (fun i h => h.IsListIter s.heap.objs.size a i /\ h.IsList a its.toArray) ->
     (s2.heap.IsListIter s.heap.objs.size a 0 /\ s2.heap.IsList a its.toArray) -> (∀ b ∈ [s.heap.objs.size,a],b < s2.heap.objs.size) -> Q (.ref s.heap.objs.size) s2):wpAny (model X.prog X.w) X.A.in1 (pyIter (.ref a)) Q X.xe s := by
 have hlt:a < s.heap.objs.size := by obtain ⟨_,e,_⟩ := tp; exact Heap.lt_size e
 refine wpAny_pyIter_list tp (q _ rfl (Walks.list (by exact I.ok.hd hc) _ _ (Nat.ne_of_lt hlt) _) ⟨⟨_,Heap.get?_push_size _ rfl,rfl,rfl⟩,?_⟩ fun b hb => ?_)
 · obtain ⟨o,e,r⟩ := tp
   exact ⟨o,Heap.get?_push_of_some _ e,r⟩
 · show b < (s.heap.push _).objs.size
   rw [Heap.size_push]
   rcases List.mem_cons.mp hb with rfl | hb
   · exact Nat.lt_succ_self _
   · rw [List.mem_singleton.mp hb]
     exact Nat.lt_succ_of_lt hlt
theorem jf (ns:List Int):∀ k,k <= ns.length -> preSum (fun i => ns.getD i 0) k = (ns.take k).sum
 | 0,_ => rfl
 | k + 1,h => by
   show preSum _ k + ns.getD k 0 = _
   rw [jf ns k (by omega),<- List.take_append_getElem (by omega:k < ns.length),List.sum_append,getD_at (by omega)]
   simp
end
end L2
namespace L2
open PySem PySem.Spec PyProof.Rows
theorem J4 {A B:Prop} (h:if false = true then A else B):B := by rwa [if_neg Bool.false_ne_true] at h
theorem J5 {A B:Prop} (h:if true = true then A else B):A := by rwa [if_pos rfl] at h
def yc (X:Cx) (Nc:List Str) (scope:Scope) (cl:List (Str × Addr)) (s:Shared) (H:Hp) (C:Addr) (fp:List Addr):Cx :=
 { X with N := Nc,s₀ := s,H₀ := H,env := compEnvC scope cl C X.env,outer := X.stack,ex := fp,fn := fun _ => false,pn := [],xe := fun _ _ => False }
def seen (ix:List (Option Nat)) (σ:St):St := ix.map fun o => match o with
 | some j => (σ[j]?).getD none
 | none => none
theorem XY {scope:Scope} {env:Env} (h:∀ x ∈ scope.names,x.2 = .free -> ∃ c,env.cells.lookup x.1 = some c) :
   ∃ cl,closureFor scope env = pure cl /\ (∀ x c,cl.lookup x = some c -> env.cells.lookup x = some c) /\ ∀ x ∈ scope.names,x.2 = .free -> ∃ c,cl.lookup x.1 = some c := by
 have go:∀ (ns:List (Str × NameKind)) (cs:List (Str × Addr)),(∀ x ∈ ns,x.2 = .free -> ∃ c,env.cells.lookup x.1 = some c) -> (∀ x c,cs.lookup x = some c -> env.cells.lookup x = some c) ->
     ∃ cl,(forIn ns cs fun (x:Str × NameKind) (r:List (Str × Addr)) => (if (x.2 == .free) = true then (do let c <- cellOf env x.1; pure (ForInStep.yield ((x.1,c) :: r))) else pure (ForInStep.yield r):Sem _)) = pure cl /\
       (∀ x c,cl.lookup x = some c -> env.cells.lookup x = some c) /\ (∀ x ∈ ns,x.2 = .free -> ∃ c,cl.lookup x.1 = some c) /\ ∀ x c,cs.lookup x = some c -> ∃ c',cl.lookup x = some c' := by
   intro ns
   induction ns with
   | nil => intro cs _ h2; exact ⟨cs,rfl,h2,fun x hx => (nomatch hx),fun x c e => ⟨c,e⟩⟩
   | cons p r ih =>
     obtain ⟨n,k⟩ := p
     intro cs h1 h2
     by_cases hk:k = .free
     · subst hk
       obtain ⟨c,hc⟩ := h1 (n,.free) List.mem_cons_self rfl
       have hcs:∀ x c',List.lookup x ((n,c) :: cs) = some c' -> env.cells.lookup x = some c' := fun x c' e => by
         rw [List.lookup_cons] at e
         cases hx:x == n with
         | true => rw [hx] at e; cases e; rw [eq_of_beq hx]; exact hc
         | false => rw [hx] at e; exact h2 x c' e
       obtain ⟨cl,e1,e2,e3,e4⟩ := ih ((n,c) :: cs) (fun x hx => h1 x (List.mem_cons_of_mem _ hx)) hcs
       refine ⟨cl,?_,e2,fun x hx hf => ?_,fun x c' e => ?_⟩
       · rw [List.forIn_cons]
         have:cellOf env n = pure c := by unfold cellOf; rw [hc]
         simp only [beq_self_eq_true,if_true,this,pure_bind]
         exact e1
       · rcases List.mem_cons.mp hx with rfl | hx
         · exact e4 n c (by rw [List.lookup_cons,beq_self_eq_true])
         · exact e3 x hx hf
       · cases hx:x == n with
         | true => exact e4 x c (by rw [List.lookup_cons,hx])
         | false => exact e4 x c' (by rw [List.lookup_cons,hx]; exact e)
     · obtain ⟨cl,e1,e2,e3,e4⟩ := ih cs (fun x hx => h1 x (List.mem_cons_of_mem _ hx)) h2
       refine ⟨cl,?_,e2,fun x hx hf => ?_,e4⟩
       · rw [List.forIn_cons]
         have hb:(k == NameKind.free) = false := by simpa using hk
         simp only [hb,Bool.false_eq_true,if_false,pure_bind]
         exact e1
       · rcases List.mem_cons.mp hx with rfl | hx
         · exact absurd hf hk
         · exact e3 x hx hf
 obtain ⟨cl,e1,e2,e3,_⟩ := go scope.names [] h (fun x c e => by cases e)
 refine ⟨cl,?_,e2,e3⟩
 unfold closureFor
 simp only [bind_pure]
 exact e1
def PTs (X:Cx) (ifs:List Expr) (t:TT):Prop :=
 ∀ (pins:List (Addr × Obj)) (s:Shared) (σ:St) (H:Hp) (Q:Bool -> Hp -> Prop),Inv X pins σ H s -> t σ H Q ->
   wpAny (model X.prog X.w) X.A (forIn ifs true fun c r => if r = true then do let ok <- isTrue c X.env (eval c X.env); pure (ForInStep.yield ok) else pure (ForInStep.yield r)) (TP X pins σ Q) X.xe s
def tYes:TT := fun _ H Q => Q true H
theorem zX {X:Cx}:PTs X [] tYes := fun _ _ _ H _ I h => wpAny_tests_nil ⟨H,I,h⟩
theorem Xy {X:Cx} {c:Expr} {t:TT} (h:PT X c t):PTs X [c] t := fun pins s σ H Q I q => wpAny_tests_one (h pins s σ H Q I q)
def Yu (wi:TI) (ix:List (Option Nat)) (g:TG) (tc:TT) (te:TE) (σ:St) (H:Hp) (R:List V -> Hp -> Prop):Prop := wi σ H fun J H1 => ∃ W:Nat -> Nat -> List V -> St -> Hp -> Prop,(∃ m,W 0 m [] (seen ix σ) H1) /\ ∀ i m ys σ' H',W i m ys σ' H' ->
 (J.stop i H' /\ ys.length <= sizeLine /\ R ys H') \/
 (J.go i H' /\ ys.length <= sizeLine /\ ∃ N:List V -> St -> Hp -> Prop,(∀ ys' σ2 H2,N ys' σ2 H2 -> ∃ m',m' < m /\ W (i + 1) m' ys' σ2 H2) /\
   ∀ x H2,J.yld i H' x H2 -> g x σ' H2 fun σ2 H3 => tc σ2 H3 fun b H4 => if b = true then te σ2 H4 fun y H5 => N (ys ++ [y]) σ2 H5 else N ys σ2 H4)
def zb0 (wi:TI) (ix:List (Option Nat)) (g:TG) (tc:TT) (te:TE):TE := fun σ H Q => Yu wi ix g tc te σ H fun ys H' => ∀ l,H' l = none -> Q (.ref l) (upd H' l (.lst ys))
def jO (scope outer:Scope) (N Nc:List Str) (ix:List (Option Nat)):Bool :=
 scope.names.all (fun y => y.2 != .cell) && scope.kind == .function && scope.names.all (fun y => y.2 != .local || scope.names.lookup y.1 == some .local) &&
 scope.names.all (fun y => y.2 != .free || outer.names.lookup y.1 == some .cell || outer.names.lookup y.1 == some .free) && ix.length == Nc.length &&
 (List.range Nc.length).all fun i => match ix[i]?,Nc[i]? with
   | some (some j),some x => N[j]? == some x && (outer.names.lookup x == some .cell || outer.names.lookup x == some .free) && scope.names.lookup x == some .free
   | _,_ => true
theorem wS {env:Env}:∀ {names:List (Str × NameKind)} {y:Str} {k:NameKind},(∀ z ∈ names,z.2 ≠ .cell) ->
   (names.map fun (n,k) => if (k == NameKind.free && env.scope.kind == .function && env.kindOf n == some .cell) then (n,NameKind.cell) else (n,k)).lookup y = some k -> k = .cell \/ k = .free -> ∃ z ∈ names,z.1 = y /\ z.2 = .free
 | [],_,_,_,h,_ => by simp at h
 | (n,k0) :: r,y,k,hc,h,hk => by
   rw [List.map_cons] at h
   have h:List.lookup y ((if (k0 == NameKind.free && env.scope.kind == .function && env.kindOf n == some .cell) = true then (n,NameKind.cell) else (n,k0)) :: _) = some k := h
   cases hx:y == n with
   | true =>
     by_cases hb:(k0 == NameKind.free && env.scope.kind == .function && env.kindOf n == some .cell) = true
     · simp only [Bool.and_eq_true,beq_iff_eq] at hb
       exact ⟨(n,k0),List.mem_cons_self,(eq_of_beq hx).symm,hb.1.1⟩
     · rw [if_neg hb,List.lookup_cons,hx] at h
       cases h
       rcases hk with rfl | rfl
       · exact absurd rfl (hc (n,.cell) List.mem_cons_self)
       · exact ⟨(n,.free),List.mem_cons_self,(eq_of_beq hx).symm,rfl⟩
   | false =>
     have h':List.lookup y (r.map fun (n,k) => if (k == NameKind.free && env.scope.kind == .function && env.kindOf n == some .cell) then (n,NameKind.cell) else (n,k)) = some k := by
       by_cases hb:(k0 == NameKind.free && env.scope.kind == .function && env.kindOf n == some .cell) = true
       · rw [if_pos hb,List.lookup_cons,hx] at h; exact h
       · rw [if_neg hb,List.lookup_cons,hx] at h; exact h
     obtain ⟨z,hz,e1,e2⟩ := wS (fun z hz => hc z (List.mem_cons_of_mem _ hz)) h' hk
     exact ⟨z,List.mem_cons_of_mem _ hz,e1,e2⟩
theorem xZ {env:Env}:∀ {names:List (Str × NameKind)} {y:Str},names.lookup y = some .free ->
   (names.map fun (n,k) => if (k == NameKind.free && env.scope.kind == .function && env.kindOf n == some .cell) then (n,NameKind.cell) else (n,k)).lookup y = some .cell \/
   (names.map fun (n,k) => if (k == NameKind.free && env.scope.kind == .function && env.kindOf n == some .cell) then (n,NameKind.cell) else (n,k)).lookup y = some .free
 | [],_,h => by simp at h
 | (n,k0) :: r,y,h => by
   rw [List.map_cons]
   show List.lookup y ((if (k0 == NameKind.free && env.scope.kind == .function && env.kindOf n == some .cell) = true then (n,NameKind.cell) else (n,k0)) :: _) = _ \/ List.lookup y ((if (k0 == NameKind.free && env.scope.kind == .function && env.kindOf n == some .cell) = true then (n,NameKind.cell) else (n,k0)) :: _) = _
   cases hx:y == n with
   | true =>
     rw [List.lookup_cons,hx] at h
     cases h
     by_cases hb:((NameKind.free == NameKind.free) && env.scope.kind == .function && env.kindOf n == some .cell) = true
     · rw [if_pos hb,List.lookup_cons,hx]; exact .inl rfl
     · rw [if_neg hb,List.lookup_cons,hx]; exact .inr rfl
   | false =>
     rw [List.lookup_cons,hx] at h
     by_cases hb:(k0 == NameKind.free && env.scope.kind == .function && env.kindOf n == some .cell) = true
     · rw [if_pos hb,List.lookup_cons,hx]; exact xZ h
     · rw [if_neg hb,List.lookup_cons,hx]; exact xZ h
theorem ZC {X:Cx} {elt tg iter:Expr} {ifs:List Expr} {scope:Scope} {pos ipos:Pos} {Nc:List Str} {ix:List (Option Nat)} {wi:TI} {g:TG} {tc:TT} {te:TE} {use:Option (Value -> Sem Unit)} {Q':Value -> Shared -> Prop} {R:List V -> Hp -> Prop}
   {pins:List (Addr × Obj)} {σ:St} {H:Hp} {s:Shared} (hc:X.calm = true)
   (hcell:∀ y ∈ scope.names,y.2 ≠ .cell) (hkind:scope.kind = .function) (hnames:∀ y ∈ scope.names,y.2 = .local -> scope.names.lookup y.1 = some .local)
   (hfree:∀ y ∈ scope.names,y.2 = .free -> X.env.kindOf y.1 = some .cell \/ X.env.kindOf y.1 = some .free) (hvis:∀ y k,(relabel scope X.env).names.lookup y = some k -> k = .cell \/ k = .free -> ∃ z ∈ scope.names,z.1 = y /\ z.2 = .free)
   (hlen:ix.length = Nc.length) (hix:∀ (i:Nat) (x:Str) (j:Nat),Nc[i]? = some x -> ix[i]? = some (some j) -> X.N[j]? = some x /\ Vis X.env.scope x /\ (X.env.kindOf x = some .local -> False) /\ ((relabel scope X.env).names.lookup x = some .cell \/ (relabel scope X.env).names.lookup x = some .free))
   (hi:PI X tg iter wi) (hg:∀ cl s H C fp,PG (yc X Nc scope cl s H C fp) tg g) (hifs:∀ cl s H C fp,PTs (yc X Nc scope cl s H C fp) ifs tc) (he:∀ cl s H C fp,PE (yc X Nc scope cl s H C fp) elt te)
   (hs:∀ x,foldedSetIterable iter X.env x = pure x) (I:Inv X pins σ H s) (h:Yu wi ix g tc te σ H R)
   (fin:∀ (D C:Addr) (oC:Obj) (ys:List V) (H3:Hp) (s4:Shared),(∃ m,∀ h':Heap,h'.get? C = some oC -> h'.Ns C m) -> H3 D = none -> (upd H3 D (.lst ys)) C = none -> jM X pins C -> Inv X (pins ++ [(C,oC)]) σ (upd H3 D (.lst ys)) s4 -> R ys H3 ->
     compPost (model X.prog X.w) X.A X.xe use Q' (.ref D) C (.ok .next) s4) :
   wpAny (model X.prog X.w) X.A (comprehension (.ListComp elt [⟨tg,iter,ifs,0⟩] scope pos) scope X.env ipos (newList []) false (eval iter X.env) use) Q' X.xe s := by
 obtain ⟨cl,hclos,clX,clF⟩ := XY (scope := scope) (env := X.env) fun x hx hf => I.ok.has x.1 (hfree x hx hf)
 refine wpAny_comprehension_free (use := use) rfl hs hclos hkind hnames (thn (hi pins s σ H _ I h) fun v s1 h1 => thn h1 fun itv s2 h2 => ?_)
 obtain ⟨it,fp,tn,J,H1,rfl,I1,T,t0,hfp,W,⟨m0,w0⟩,turn⟩ := h2
 refine wpAny_newObj_type (wpAny_newFunctionEnv hcell (by intro y hy; simp at hy) (fun h₁ hns₁ hsb₁ => ?_) hkind)
 dsimp only at hns₁ hsb₁ ⊢
 generalize hH2:s2.heap.push { cls := .type "list",dict := none,data := .seq ([]:List Value).toArray } = H2 at hns₁ hsb₁ ⊢
 have hC:H2.objs.size = s2.heap.objs.size + 1 := by rw [<- hH2,Heap.size_push]
 have hDC:s2.heap.objs.size ≠ H2.objs.size := by rw [hC]; exact Nat.ne_of_lt (Nat.lt_succ_self _)
 have old:∀ b o,s2.heap.get? b = some o -> h₁.get? b = some o := fun b o e => by
   have hb := Heap.lt_size e
   exact hsb₁.extBut b o (by rw [hC]; exact Nat.ne_of_lt (Nat.lt_succ_of_lt hb)) (Heap.get?_push_of_some _ (hH2 ▸ Heap.get?_push_of_some _ e))
 obtain ⟨e0,hacc⟩ : ∃ e0,h₁.get? s2.heap.objs.size = some (seqObj "list" ([]:List Value).toArray e0) := ⟨_,hsb₁.extBut _ _ hDC (Heap.get?_push_of_some _ (hH2 ▸ Heap.get?_push_size _ rfl))⟩
 generalize hCC:H2.objs.size = C at hns₁ hsb₁ hDC hC ⊢
 generalize hDD:s2.heap.objs.size = D at hDC hC hacc ⊢
 have hDle:s2.heap.objs.size <= D := Nat.le_of_eq hDD
 have hCle:s2.heap.objs.size <= C := by rw [hC,<- hDD]; exact Nat.le_succ _
 have yD := I1.young hDle
 have nD:H1 D = none := I1.hok.fresh hDle
 have nC:H1 C = none := I1.hok.fresh hCle
 have fpLt:∀ b ∈ fp,b < s2.heap.objs.size := fun b hb => by
   obtain ⟨o,e,_⟩ := T.obj 0 _ t0 b hb
   exact Heap.lt_size e
 have fpD:D ∉ fp := fun hm => absurd (fpLt _ hm) (Nat.not_lt.mpr hDle)
 have fpC:C ∉ fp := fun hm => absurd (fpLt _ hm) (Nat.not_lt.mpr hCle)
 have frN:∀ b ∈ frs X.stack,b < s2.heap.objs.size := fun b hb => by
   obtain ⟨_,o,ho,_⟩ := I1.stack.mem hb
   exact Heap.lt_size ho
 have frFp:∀ b ∈ fp,b ∉ frs X.stack := fun b hb hm => by
   rcases List.mem_cons.mp (I1.stkSub b hm) with z | z
   · exact (hfp b hb).2.1 z
   · exact (hfp b hb).2.2.1 z
 -- the block's context
 have ok:(yc X Nc scope cl s2 H1 C fp).Ok :=
   ⟨I.ok.mod,(by show (relabel scope X.env).kind = _; exact hkind),I.ok.glob,I.ok.blt,hCle,(fun x y c e1 e2 => I.ok.inj x y c (clX x c e1) (clX y c e2)),
     (fun x hx => by
       obtain ⟨z,hz,rfl,hf⟩ : ∃ z ∈ scope.names,z.1 = x /\ z.2 = .free := by
         rcases hx with hx | hx
         · exact hvis x _ hx (.inl rfl)
         · exact hvis x _ hx (.inr rfl)
       exact clF z hz hf),(fun x c z => nomatch z),I.ok.hd,I.ok.frames,.inl rfl,
     (fun b hb => ⟨fun z => fpC ((show b = C from z) ▸ hb),fun x c e => (hfp b hb).2.2.2.2.1 x c (clX x c e)⟩),(fun b o e => I1.bs b o e),Nat.le_trans I.ok.bsz I1.sz,
     (fun b o e hb => by
       rcases (hfp b hb).2.2.2.1 with z | z
       · exact I.ok.noex b o e z
       · have := Heap.lt_size (I.ok.bs b o e).1
         exact absurd this (Nat.not_lt.mpr z)),
     frFp,I1.stack,I1.stkFree⟩
 have start:∀ tk,Inv (yc X Nc scope cl s2 H1 C fp) [(D,seqObj "list" ([]:List Value).toArray e0)] (seen ix σ) H1 { s2 with heap := h₁,toks := tk } := fun tk => by
   refine ⟨ok,rfl,I1.bare,Un.kept old,⟨_,hns₁,fun i x v e1 e2 e3 => ?_⟩,fun x c e => ?_,nC,fun x c e => I1.freeC x c (clX x c e),fun p hp => ?_,I1.hok.kept old,by show (seen ix σ).length = Nc.length; unfold seen; rw [List.length_map]; exact hlen⟩
   · unfold seen at e2
     rw [List.getElem?_map] at e2
     cases ei:ix[i]? with
     | none => rw [ei] at e2; cases e2
     | some o =>
       rw [ei] at e2
       cases o with
       | none => cases e2
       | some j =>
         have e2':(σ[j]?).getD none = some v := Option.some.inj e2
         have e2'':σ[j]? = some (some v) := by
           cases ej:σ[j]? with
           | none => rw [ej] at e2'; cases e2'
           | some z => rw [ej] at e2'; exact congrArg some e2'
         obtain ⟨n1,n2,n3,n4⟩ := hix i x j e1 ei
         obtain ⟨m,hm,hl⟩ := I1.loc
         obtain ⟨u,ru,lk⟩ := hl j x v n1 e2'' n2
         refine ⟨u,ru,.inr ⟨n4,?_⟩⟩
         rcases lk with ⟨k,_⟩ | ⟨_,c,ec,hc'⟩
         · exact (n3 k).elim
         · obtain ⟨z,hz,rfl,hf⟩ : ∃ z ∈ scope.names,z.1 = x /\ z.2 = .free := by
             rcases n4 with hx | hx
             · exact hvis x _ hx (.inl rfl)
             · exact hvis x _ hx (.inr rfl)
           obtain ⟨c',ec'⟩ := clF z hz hf
           have:c' = c := Option.some.inj ((clX _ _ ec').symm.trans ec)
           subst this
           obtain ⟨o,ho,hd⟩ := hc'
           exact ⟨c',ec',o,old _ o ho,hd⟩
   · obtain ⟨v,o,ho,hd⟩ := I1.cell x c (clX x c e)
     exact ⟨v,o,old _ o ho,hd⟩
   · have hp':p = (D,seqObj "list" ([]:List Value).toArray e0) := by simpa [yc] using hp
     subst hp'
     exact ⟨hacc,nD,hDC,fun hm => absurd (frN _ hm) (Nat.not_lt.mpr hDle),fun v z => by cases z⟩
 have stat:∀ {ks:List Value} {e:Nat} {H':Hp},(∀ b ∈ fp,H' b = none) -> ∀ b ∈ fp,FpOk (yc X Nc scope cl s2 H1 C fp) [(D,seqObj "list" ks.toArray e)] H' b := fun {ks e H'} hn b hb =>
   ⟨hn b hb,fun z => fpC ((show b = C from z) ▸ hb),frFp b hb,.inl hb,fun x c ec => (hfp b hb).2.2.2.2.1 x c (clX x c ec),fun p hp z => by
     have hp':p = (D,seqObj "list" ks.toArray e) := by simpa [yc] using hp
     subst hp'
     exact fpD ((show b = D from z.symm) ▸ hb)⟩
 have loop:∀ tk,codeAny (model X.prog X.w) X.A (.compLoop (.ListComp elt [⟨tg,iter,ifs,0⟩] scope pos) 0 (.ref it) (.ref D) (compEnvC scope cl C X.env)) (compPost (model X.prog X.w) X.A X.xe use Q' (.ref D) C) { s2 with heap := h₁,toks := tk } := fun tk => by
   refine codeAny_loop rfl (fun n s' => ∃ i ys ks e σ' H',Inv (yc X Nc scope cl s2 H1 C fp) [(D,seqObj "list" ks.toArray e)] σ' H' s' /\ Vals ys ks /\ tn i s'.heap /\ (∀ b ∈ fp,H' b = none) /\ W i n ys σ' H') ?_ m0
     ⟨0,[],[],e0,_,H1,start tk,.nil,T.keep _ _ _ t0 fun b _ o e => old b o e,fun b hb => (hfp b hb).1,w0⟩
   rintro n s3 ⟨i,ys,ks,e,σ3,H3,I3,rv,st3,fr3,w3⟩
   show wpAny _ X.A ((compTurn (.ListComp elt [⟨tg,iter,ifs,0⟩] scope pos) 0 (.ref it) (.ref D) (compEnvC scope cl C X.env)).onRaise (fun x => do noteFrame x (compEnvC scope cl C X.env); theTreesLotGoes x)) _ _ s3
   refine wpAny_noted ?_
   rw [compTurn_list]
   refine wpAny_bind (wpAny_standAt ?_)
   have lk := rv.length
   rcases turn i n ys σ3 H3 w3 with ⟨stop,sz,q⟩ | ⟨go,sz,N,hN,step⟩
   · refine wpAny_bind (thn (T.done (yc X Nc scope cl s2 H1 C fp) rfl rfl rfl hc i _ s3 σ3 H3 _ I3 (stat fr3) st3 stop) fun r s4 ⟨hr,I4⟩ => ?_)
     subst hr
     refine wpAny_pure ?_
     obtain ⟨m,⟨oC,esC,epC,hoC,hdC,rC⟩,_⟩ := I4.loc
     have hoC:s4.heap.get? C = some oC := hoC
     have pD := I4.pin (D,seqObj "list" ks.toArray e) (List.mem_append_right _ List.mem_cons_self)
     have nC4:H3 C = none := I4.free
     have yC := I1.young hCle
     have I5:Inv X pins σ H3 s4 := I1.call' (ch := fp) I4.os (show Un (frs X.stack) fp H1 H3 s2.heap s4.heap from I4.base) I4.hok I4.bare fun b hb => ⟨(hfp b hb).2.2.2.1,(hfp b hb).2.1,(hfp b hb).2.2.2.2.1,(hfp b hb).2.2.2.2.2⟩
     have I6 := I5.track (p := D) (o := .lst ys) pD.2.1 (Heap.get?_none_of_le (Nat.le_trans I1.sz hDle)) yD.lo yD.ce yD.pi ⟨sz,ks,e,rv,pD.1⟩
     have nC6:(upd H3 D (.lst ys)) C = none := by rw [zp hDC.symm]; exact nC4
     have I7:Inv X (pins ++ [(C,oC)]) σ (upd H3 D (.lst ys)) s4 := I6.pins_of fun p hp => by
       rcases List.mem_append.mp hp with hp | hp
       · exact I6.pin p (List.mem_append_right _ hp)
       · obtain rfl := List.mem_singleton.mp hp
         exact ⟨hoC,nC6,yC.lo,yC.fs,fun v z => by rw [hdC] at z; cases z⟩
     exact fin D C oC ys H3 s4 ⟨m,fun h' e' => ⟨oC,esC,epC,e',hdC,rC⟩⟩ pD.2.1 nC6 yC I7 q
   · refine wpAny_bind (thn (T.item (yc X Nc scope cl s2 H1 C fp) rfl rfl rfl hc i _ s3 σ3 H3 _ I3 (stat fr3) st3 go) fun r s4 ⟨u,hr,h4⟩ => ?_)
     subst hr
     refine wpAny_bind (thn h4 fun _ s5 ⟨x,H5,I5,r5,y5,st5,fr5⟩ => ?_)
     have I5' := I5.pinned (stat fr5) (T.obj _ _ st5)
     refine wpAny_bind (wpAny_mono (hg cl s2 H1 C fp _ s5 σ3 H5 x u _ I5' r5 (step x H5 y5)) (fun _ s6 ⟨σ6,H6,I6,q6⟩ => ?_) fun _ _ z => False.elim z)
     refine wpAny_bind (wpAny_mono (hifs cl s2 H1 C fp _ s6 σ6 H6 _ I6 q6) (fun ok s7 ⟨H7,I7,q7⟩ => ?_) fun _ _ z => False.elim z)
     have fin:∀ {ks':List Value} {e':Nat} {ys':List V} {σ8:St} {H8:Hp} {s8:Shared},Inv (yc X Nc scope cl s2 H1 C fp) ([(D,seqObj "list" ks'.toArray e')] ++ xJ fp s5.heap) σ8 H8 s8 -> Vals ys' ks' -> N ys' σ8 H8 ->
         ∃ m,m < n /\ ∃ i ys ks e σ' H',Inv (yc X Nc scope cl s2 H1 C fp) [(D,seqObj "list" ks.toArray e)] σ' H' s8 /\ Vals ys ks /\ tn i s8.heap /\ (∀ b ∈ fp,H' b = none) /\ W i m ys σ' H' := fun {ks' e' ys' σ8 H8 s8} I8 rv' n8 => by
       obtain ⟨m',hm,w8⟩ := hN _ σ8 H8 n8
       refine ⟨m',hm,i + 1,ys',ks',e',σ8,H8,I8.unpinned,rv',T.keep _ _ _ st5 fun b hb o eo => (I8.pin (b,o) (List.mem_append_right _ (List.mem_append_right _ (xO hb eo)))).1,fun b hb => ?_,w8⟩
       obtain ⟨o,eo,d⟩ := T.obj _ _ st5 b hb
       exact (I8.pin (b,o) (List.mem_append_right _ (List.mem_append_right _ (xO hb eo)))).2.1
     cases ok with
     | false =>
       have q7 := J4 q7
       exact wpAny_pure ⟨rfl,fin I7 rv q7⟩
     | true =>
       have q7 := J5 q7
       refine wpAny_bind (wpAny_bind (wpAny_mono (he cl s2 H1 C fp _ s7 σ6 H7 _ I7 q7) (fun y s8 ⟨vy,H8,I8,ry,n8⟩ => ?_) fun _ _ z => False.elim z))
       have pD := I8.pin (D,seqObj "list" ks.toArray e) (List.mem_append_right _ (List.mem_append_left _ List.mem_cons_self))
       refine wpAny_bind (wpAny_list_append_plain (hsz := by rw [List.size_toArray,<- lk]; exact sz) ⟨e,pD.1⟩ fun h9 hl9 hs9 => ?_)
       refine wpAny_pure (wpAny_pure ⟨rfl,?_⟩)
       obtain ⟨e9,hl9⟩ := hl9
       have ea:ks.toArray.push y = (ks ++ [y]).toArray := by simp
       rw [ea] at hl9
       refine fin (ks' := ks ++ [y]) (e' := e9) (ys' := ys ++ [vy]) ?_ (Vals.append rv (.cons ry .nil)) n8
       have ne9:∀ p ∈ xJ fp s5.heap,p.1 ≠ D := fun p hp z => fpD (z ▸ (Zr hp).1)
       have yDb:jM (yc X Nc scope cl s2 H1 C fp) (xJ fp s5.heap) D := ⟨hDC,fun hm => absurd (frN _ hm) (Nat.not_lt.mpr hDle),.inr hDle,fun x c ec => yD.ce x c (clX x c ec),fun p hp => ne9 p (by simpa [yc] using hp)⟩
       have I8a:Inv (yc X Nc scope cl s2 H1 C fp) (xJ fp s5.heap) σ6 H8 s8 := I8.pins_of fun p hp => I8.pin p (List.mem_append_right _ (List.mem_append_right _ hp))
       have I8b := I8a.record yDb pD.2.1 hs9
       exact I8b.pins_of fun p hp => by
         rcases List.mem_append.mp hp with hp | hp
         · obtain rfl := List.mem_singleton.mp hp
           exact ⟨hl9,pD.2.1,yDb.lo,yDb.fs,fun v z => by cases z⟩
         · exact I8b.pin p (List.mem_append_right _ hp)
 exact codeAny_compStart_list (loop _) (T.self _ 0 _ _ _ (T.keep _ _ _ t0 fun b _ o e => old b o e) (loop _))
theorem jP {X:Cx} {scope:Scope} {Nc:List Str} {ix:List (Option Nat)} (h:jO scope X.env.scope X.N Nc ix = true):(∀ y ∈ scope.names,y.2 ≠ .cell) /\ scope.kind = .function /\ (∀ y ∈ scope.names,y.2 = .local -> scope.names.lookup y.1 = some .local) /\
   (∀ y ∈ scope.names,y.2 = .free -> X.env.kindOf y.1 = some .cell \/ X.env.kindOf y.1 = some .free) /\ ix.length = Nc.length /\
   ∀ (i:Nat) (x:Str) (j:Nat),Nc[i]? = some x -> ix[i]? = some (some j) -> X.N[j]? = some x /\ Vis X.env.scope x /\ (X.env.kindOf x = some .local -> False) /\ ((relabel scope X.env).names.lookup x = some .cell \/ (relabel scope X.env).names.lookup x = some .free) := by
 unfold jO at h
 simp only [Bool.and_eq_true,beq_iff_eq,List.all_eq_true,Bool.or_eq_true,bne_iff_ne] at h
 obtain ⟨⟨⟨⟨⟨h1,h2⟩,h3⟩,h4⟩,h5⟩,h6⟩ := h
 refine ⟨h1,h2,fun y hy e => ?_,fun y hy e => ?_,h5,fun i x j e1 e2 => ?_⟩
 · rcases h3 y hy with z | z
   · exact absurd e z
   · exact z
 · rcases h4 y hy with (z | z) | z
   · exact absurd e z
   · exact .inl z
   · exact .inr z
 · have q := h6 i (List.mem_range.mpr (List.getElem?_eq_some_iff.mp e1).1)
   rw [e1,e2] at q
   simp only [Bool.and_eq_true,beq_iff_eq,Bool.or_eq_true] at q
   obtain ⟨⟨q1,q2⟩,q3⟩ := q
   refine ⟨q1,?_,fun z => ?_,xZ q3⟩
   · rcases q2 with z | z
     · exact .inr (.inl z)
     · exact .inr (.inr z)
   · have z':X.env.scope.names.lookup x = some .local := z
     rcases q2 with y | y
     · rw [y] at z'; cases z'
     · rw [y] at z'; cases z'
theorem z9 {X:Cx} {elt tg iter:Expr} {ifs:List Expr} {scope:Scope} {pos:Pos} {Nc:List Str} {ix:List (Option Nat)} {wi:TI} {g:TG} {tc:TT} {te:TE} (hc:X.calm = true) (hok:jO scope X.env.scope X.N Nc ix = true)
   (hi:PI X tg iter wi) (hg:∀ cl s H C fp,PG (yc X Nc scope cl s H C fp) tg g) (hifs:∀ cl s H C fp,PTs (yc X Nc scope cl s H C fp) ifs tc) (he:∀ cl s H C fp,PE (yc X Nc scope cl s H C fp) elt te)
   (hs:∀ x,foldedSetIterable iter X.env x = pure x := by intro _; rfl):PE X (.ListComp elt [⟨tg,iter,ifs,0⟩] scope pos) (zb0 wi ix g tc te) := by
 intro pins s σ H Q I h
 obtain ⟨h1,h2,h3,h4,h5,h6⟩ := jP hok
 rw [eval_ListComp]
 refine ZC (Q' := EP X pins σ Q) hc h1 h2 h3 h4 (fun y k e hk => wS h1 e hk) h5 h6 hi hg hifs he hs I h fun D C oC ys H3 s4 hN nD nC yC I4 q => ?_
 have pC := I4.pin (C,oC) (List.mem_append_right _ (List.mem_append_right _ List.mem_cons_self))
 obtain ⟨m,hm⟩ := hN
 exact ⟨m,hm _ pC.1,fun h' hsb => ⟨.ref D,_,I4.unpinned.record yC nC hsb,rfl,q D nD⟩⟩
def zb1 (i:Nat) (wi:TI) (ix:List (Option Nat)) (g:TG) (tc:TT) (te:TE):TS := fun D σ H => Yu wi ix g tc te σ H fun ys H' => ∀ l,H' l = none -> D.nx (σ.set i (some (.ref l))) (upd H' l (.lst ys))
theorem wu {X:Cx} {i:Nat} {y:Str} {elt tg iter:Expr} {ifs:List Expr} {scope:Scope} {pos spos py:Pos} {Nc:List Str} {ix:List (Option Nat)} {wi:TI} {g:TG} {tc:TT} {te:TE} (hN:X.N.Nodup) (hi':X.N[i]? = some y) (hx:Loc X.env.scope y) (hc:X.calm = true) (hok:jO scope X.env.scope X.N Nc ix = true)
   (hi:PI X tg iter wi) (hg:∀ cl s H C fp,PG (yc X Nc scope cl s H C fp) tg g) (hifs:∀ cl s H C fp,PTs (yc X Nc scope cl s H C fp) ifs tc) (he:∀ cl s H C fp,PE (yc X Nc scope cl s H C fp) elt te)
   (hs:∀ x,foldedSetIterable iter X.env x = pure x := by intro _; rfl) (hsw:swapsWith (.ListComp elt [⟨tg,iter,ifs,0⟩] scope pos) (some (.Name y py)) spos.line X.env = pure true := by rfl)
   (hf:X.fn y = true \/ X.env.scope.names.lookup y = some .local := by first | exact .inl rfl | exact .inr rfl | assumption):PS X (.Assign [.Name y py] (.ListComp elt [⟨tg,iter,ifs,0⟩] scope pos) spos) (zb1 i wi ix g tc te) := by
 intro pins s σ H D I h
 obtain ⟨h1,h2,h3,h4,h5,h6⟩ := jP hok
 rw [exec_Assign_Name_used _ _ _ _ hsw]
 refine wpAny_bind (wpAny_standAt (wpAny_bind ?_))
 show wpAny _ X.A (do let _ <- comprehension (.ListComp elt [⟨tg,iter,ifs,0⟩] scope pos) scope X.env _ (newList []) false (eval iter X.env) (some (assign (.Name y py) X.env))) _ _ s
 refine wpAny_bind (wpAny_mono (ZC (Q' := fun _ s' => SP X pins D .next s') hc h1 h2 h3 h4 (fun y k e hk => wS h1 e hk) h5 h6 hi hg hifs he hs I h fun Da C oC ys H3 s4 hN' nD nC yC I4 q => ?_)
   (fun _ s' hq => wpAny_pure (wpAny_pure hq)) fun _ _ e => e)
 show wpAny _ _ (assign (.Name y py) X.env (.ref Da)) _ _ s4
 refine thn (zr (i := i) hN hi' hx hf _ s4 σ _ (.ref Da) (.ref Da) (fun σ' H' => σ' = σ.set i (some (.ref Da)) /\ H' = upd H3 Da (.lst ys)) I4 rfl ⟨rfl,rfl⟩) fun _ s5 ⟨σ5,H5,I5,e1,e2⟩ => ?_
 subst e1 e2
 have pC := I5.pin (C,oC) (List.mem_append_right _ (List.mem_append_right _ List.mem_cons_self))
 obtain ⟨m,hm⟩ := hN'
 exact ⟨m,hm _ pC.1,fun h' hsb => ⟨_,_,I5.unpinned.record yC nC hsb,q Da nD⟩⟩
end L2
namespace L2
open PySem PySem.Spec PyProof.Rows
section
variable {X:Cx}
theorem x0 {pins:List (Addr × Obj)} {σ:St} {H:Hp} {s:Shared} {a:Addr} {its:List Value} (I:Inv X pins σ H s) (tp:s.heap.IsList a its.toArray) (hc:X.calm = true) {Q:Value -> Shared -> Prop}
   (q:∀ s2:Shared,s2 = { s with heap := s.heap.push { cls := .type "list_iterator",data := .fields #[.ref a,.int 0 0] } } -> Walks X.prog X.w X.A.in1 s.heap.objs.size [s.heap.objs.size,a] [s.heap.objs.size] its.toArray.size (fun i v => its.toArray[i]? = some v) (fun i h => h.IsListIter s.heap.objs.size a i /\ h.IsList a its.toArray) ->
     (s2.heap.IsListIter s.heap.objs.size a 0 /\ s2.heap.IsList a its.toArray) -> (∀ b ∈ [s.heap.objs.size,a],b < s2.heap.objs.size) -> Q (.ref s.heap.objs.size) s2):wpAny (model X.prog X.w) X.A.in1 (pyIter (.ref a)) Q X.xe s := by
 have hlt:a < s.heap.objs.size := by obtain ⟨_,e,_⟩ := tp; exact Heap.lt_size e
 refine wpAny_pyIter_list tp (q _ rfl (Walks.list (by exact I.ok.hd hc) _ _ (Nat.ne_of_lt hlt) _) ⟨⟨_,Heap.get?_push_size _ rfl,rfl,rfl⟩,?_⟩ fun b hb => ?_)
 · obtain ⟨o,e,r⟩ := tp
   exact ⟨o,Heap.get?_push_of_some _ e,r⟩
 · show b < (s.heap.push _).objs.size
   rw [Heap.size_push]
   rcases List.mem_cons.mp hb with rfl | hb
   · exact Nat.lt_succ_self _
   · rw [List.mem_singleton.mp hb]
     exact Nat.lt_succ_of_lt hlt
theorem Yv {bs:List Bool} {its:List Value} (r:Vals (bs.map V.bl) its):∀ (i:Nat) (v:Value),its.toArray[i]? = some v -> v = Value.bool (bs.getD i false) := by
 intro i v e
 rw [List.getElem?_toArray] at e
 have hl := r.length
 have hi:i < its.length := (List.getElem?_eq_some_iff.mp e).1
 rw [List.length_map] at hl
 have hx:(bs.map V.bl)[i]? = some (.bl (bs.getD i false)) := by
   rw [List.getElem?_map,List.getElem?_eq_getElem (by omega)]
   simp [List.getD,show i < bs.length by omega]
 obtain ⟨u,hu,ru⟩ := r.get hx
 rw [e] at hu
 cases hu
 exact ru
theorem all_range (bs:List Bool):(List.range bs.length).all (fun i => bs.getD i false) = bs.all id := by
 rw [Bool.eq_iff_iff,List.all_eq_true,List.all_eq_true]
 constructor
 · intro h b hb
   obtain ⟨i,hi,rfl⟩ := List.mem_iff_getElem.mp hb
   have := h i (List.mem_range.mpr hi)
   rwa [getD_at hi] at this
 · intro h i hi
   have hi := List.mem_range.mp hi
   rw [getD_at hi]
   exact h _ (List.getElem_mem hi)
theorem any_range (bs:List Bool):(List.range bs.length).any (fun i => bs.getD i false) = bs.any id := by
 rw [Bool.eq_iff_iff,List.any_eq_true,List.any_eq_true]
 constructor
 · rintro ⟨i,hi,h⟩
   have hi := List.mem_range.mp hi
   rw [getD_at hi] at h
   exact ⟨_,List.getElem_mem hi,h⟩
 · rintro ⟨b,hb,h⟩
   obtain ⟨i,hi,rfl⟩ := List.mem_iff_getElem.mp hb
   exact ⟨i,List.mem_range.mpr hi,by rw [getD_at hi]; exact h⟩
theorem qo (hc:X.calm = true):yx X (.builtin "all") (fun xs H Q => ∃ (a:Addr) (bs:List Bool),xs = [.ref a] /\ SqL X.K H a (bs.map V.bl) /\ Q (.bl (bs.all id)) H) := by
 intro pins s σ H xs us Q I r h
 obtain ⟨a,bs,rfl,hq,q⟩ := h
 obtain ⟨u,rfl,ru⟩ := vals1 r
 cases ru
 obtain ⟨its,rv,tp,hz⟩ := I.list hq
 have hl := rv.length
 rw [List.length_map] at hl
 refine call_all_walk (x0 I tp.isList hc fun s2 e W st hfp => ?_)
 subst e
 refine ⟨_,_,_,_,_,_,fun i => bs.getD i false,rfl,W,st,fun i v A' Q' E' hP hQ => ?_,fun h' tk hk => ?_⟩
 · have := Yv rv i v hP
   subst this
   exact wpAny_truthy_bool hQ
 · refine ⟨.bl _,H,I.kept (t' := tk) fun b o e => hk b o (fun m => ?_) (Heap.get?_push_of_some _ e),?_,q⟩
   · have := Heap.lt_size e
     rw [List.mem_singleton.mp m] at this
     exact Nat.lt_irrefl _ this
   · show Value.bool _ = Value.bool _
     rw [List.size_toArray,<- hl,all_range]
theorem ZD (hc:X.calm = true):yx X (.builtin "any") (fun xs H Q => ∃ (a:Addr) (bs:List Bool),xs = [.ref a] /\ SqL X.K H a (bs.map V.bl) /\ Q (.bl (bs.any id)) H) := by
 intro pins s σ H xs us Q I r h
 obtain ⟨a,bs,rfl,hq,q⟩ := h
 obtain ⟨u,rfl,ru⟩ := vals1 r
 cases ru
 obtain ⟨its,rv,tp,hz⟩ := I.list hq
 have hl := rv.length
 rw [List.length_map] at hl
 refine call_any_walk (x0 I tp.isList hc fun s2 e W st hfp => ?_)
 subst e
 refine ⟨_,_,_,_,_,_,fun i => bs.getD i false,rfl,W,st,fun i v A' Q' E' hP hQ => ?_,fun h' tk hk => ?_⟩
 · have := Yv rv i v hP
   subst this
   exact wpAny_truthy_bool hQ
 · refine ⟨.bl _,H,I.kept (t' := tk) fun b o e => hk b o (fun m => ?_) (Heap.get?_push_of_some _ e),?_,q⟩
   · have := Heap.lt_size e
     rw [List.mem_singleton.mp m] at this
     exact Nat.lt_irrefl _ this
   · show Value.bool _ = Value.bool _
     rw [List.size_toArray,<- hl,any_range]
theorem WQ (hc:X.calm = true):yx X (.builtin "min") (fun xs H Q => ∃ (a:Addr) (ns:List Int),xs = [.ref a] /\ SqL X.K H a (ns.map V.int) /\ 0 < ns.length /\ ∀ M,M ∈ ns -> (∀ z ∈ ns,M <= z) -> Q (.int M) H) := by
 intro pins s σ H xs us Q I r h
 obtain ⟨a,ns,rfl,hq,hn,q⟩ := h
 obtain ⟨u,rfl,ru⟩ := vals1 r
 cases ru
 obtain ⟨its,rv,tp,hz⟩ := I.list hq
 have hl := rv.length
 rw [List.length_map] at hl
 refine call_min_walk (x0 I tp.isList hc fun s2 e W st hfp => ?_)
 subst e
 refine ⟨_,_,_,_,_,_,_,rfl,W,st,hfp,by simp; omega,CmpOf.ints_lt (fun i => ns.getD i 0) (xA rv),fun v h' tk hP hk => ?_⟩
 obtain ⟨t,rfl⟩ := xA rv _ _ hP
 obtain ⟨b1,b2⟩ := argBest_lt (fun i => ns.getD i 0) (its.toArray.size - 1)
 rw [List.size_toArray] at b1 b2
 refine ⟨.int _,H,I.kept (t' := tk) fun b o e => hk b o (fun m => ?_) (Heap.get?_push_of_some _ e),⟨t,rfl⟩,q _ (jo ?_) fun z hz => ?_⟩
 · have := Heap.lt_size e
   rw [List.mem_singleton.mp m] at this
   exact Nat.lt_irrefl _ this
 · rw [List.size_toArray]; omega
 · obtain ⟨j,hj,e⟩ := Yr hz
   rw [<- e,List.size_toArray]
   exact b2 j (by omega)
theorem WR (hc:X.calm = true):yx X (.builtin "max") (fun xs H Q => ∃ (a:Addr) (ns:List Int),xs = [.ref a] /\ SqL X.K H a (ns.map V.int) /\ 0 < ns.length /\ ∀ M,M ∈ ns -> (∀ z ∈ ns,z <= M) -> Q (.int M) H) := by
 intro pins s σ H xs us Q I r h
 obtain ⟨a,ns,rfl,hq,hn,q⟩ := h
 obtain ⟨u,rfl,ru⟩ := vals1 r
 cases ru
 obtain ⟨its,rv,tp,hz⟩ := I.list hq
 have hl := rv.length
 rw [List.length_map] at hl
 refine call_max_walk (x0 I tp.isList hc fun s2 e W st hfp => ?_)
 subst e
 refine ⟨_,_,_,_,_,_,_,rfl,W,st,hfp,by simp; omega,CmpOf.ints_gt (fun i => ns.getD i 0) (xA rv),fun v h' tk hP hk => ?_⟩
 obtain ⟨t,rfl⟩ := xA rv _ _ hP
 obtain ⟨b1,b2⟩ := argBest_gt (fun i => ns.getD i 0) (its.toArray.size - 1)
 rw [List.size_toArray] at b1 b2
 refine ⟨.int _,H,I.kept (t' := tk) fun b o e => hk b o (fun m => ?_) (Heap.get?_push_of_some _ e),⟨t,rfl⟩,q _ (jo ?_) fun z hz => ?_⟩
 · have := Heap.lt_size e
   rw [List.mem_singleton.mp m] at this
   exact Nat.lt_irrefl _ this
 · rw [List.size_toArray]; omega
 · obtain ⟨j,hj,e⟩ := Yr hz
   rw [<- e,List.size_toArray]
   exact b2 j (by omega)
end
end L2
namespace L2
open PySem PySem.Spec PyProof.Rows
inductive EqR (K:PySem.W.Frag) (H:Hp):Nat -> V -> V -> Bool -> Prop where
 | flat {n:Nat} {x y:V} (fx:xj x = true) (fy:xj y = true):EqR K H n x y (eqV x y)
 | tups {n:Nat} {a b:Addr} {xs ys:List V} {e:Nat -> Bool} (ha:SqT K H a xs) (hb:SqT K H b ys) (he:∀ j,j < xs.length -> j < ys.length -> EqR K H n (xs.getD j .non) (ys.getD j .non) (e j)) :
     EqR K H (n + 1) (.ref a) (.ref b) ((List.range (min xs.length ys.length)).all e && xs.length == ys.length)
 | lsts {n:Nat} {a b:Addr} {xs ys:List V} {e:Nat -> Bool} (ha:SqL K H a xs) (hb:SqL K H b ys) (hl:xs.length = ys.length) (he:∀ j,j < xs.length -> EqR K H n (xs.getD j .non) (ys.getD j .non) (e j)) :
     EqR K H (n + 1) (.ref a) (.ref b) ((List.range xs.length).all e)
 | lens {n:Nat} {a b:Addr} {xs ys:List V} (ha:SqL K H a xs) (hb:SqL K H b ys) (hl:xs.length ≠ ys.length):EqR K H (n + 1) (.ref a) (.ref b) false
theorem Yw:∀ {x:V},xj x = true -> eqV x x = true
 | .non,_ => rfl
 | .bl b,_ => beq_self_eq_true b
 | .int i,_ => beq_self_eq_true i
 | .str s,_ => beq_self_eq_true s
section
variable {X:Cx} {pins:List (Addr × Obj)} {σ:St} {H:Hp} {s:Shared}
theorem EqR.refl (I:Inv X pins σ H s) {n:Nat} {x y:V} {b:Bool} (h:EqR X.K H n x y b):x = y -> b = true := by
 induction h with
 | flat fx fy => intro e; subst e; exact Yw fx
 | @tups n a b xs ys e ha hb he ih =>
   intro z
   cases z
   have := I.tuple_inj ha hb
   subst this
   rw [beq_self_eq_true,Bool.and_true,List.all_eq_true]
   intro j hj
   have hj := List.mem_range.mp hj
   exact ih j (by omega) (by omega) rfl
 | @lsts n a b xs ys e ha hb hl he ih =>
   intro z
   cases z
   have := I.list_inj ha hb
   subst this
   rw [List.all_eq_true]
   intro j hj
   exact ih j (List.mem_range.mp hj) rfl
 | @lens n a b xs ys ha hb hl =>
   intro z
   cases z
   exact absurd (by rw [I.list_inj ha hb]) hl
theorem EqR.at (I:Inv X pins σ H s) {n:Nat} {x y:V} {b:Bool} (h:EqR X.K H n x y b):∀ {A:Around} {u v:Value},RelV x u -> RelV y v -> A.units + n < cLine -> SeqAt.EqAt A s u v b := by
 induction h with
 | flat fx fy => intro A u v ru rv _; exact WC ru rv fx fy
 | @tups n a b xs ys e ha hb he ih =>
   intro A u v ru rv hu
   cases ru
   cases rv
   by_cases hab:a = b
   · have := EqR.refl I (EqR.tups (n := n) ha hb he) (by rw [hab])
     rw [this,hab]
     exact SeqAt.EqAt.same _
   · obtain ⟨i1,r1,p1,z1⟩ := I.tuple ha
     obtain ⟨i2,r2,p2,z2⟩ := I.tuple hb
     have l1 := r1.length
     have l2 := r2.length
     have := SeqAt.RcAt.tuples (A := A) (e := e) (show s.heap.IsTuple a i1.toArray from p1) (show s.heap.IsTuple b i2.toArray from p2) (by omega) fun j h1 h2 => by
       have h1':j < i1.length := by simpa using h1
       have h2':j < i2.length := by simpa using h2
       have q := ih j (by omega) (by omega) (A := A.in1) (yE r1 h1') (yE r2 h2') (by show A.units + 1 + n < cLine; omega)
       simpa using q
     rw [List.size_toArray,List.size_toArray,<- l1,<- l2] at this
     exact SeqAt.EqAt.of_refs hab this
 | @lsts n a b xs ys e ha hb hl he ih =>
   intro A u v ru rv hu
   cases ru
   cases rv
   by_cases hab:a = b
   · have := EqR.refl I (EqR.lsts (n := n) ha hb hl he) (by rw [hab])
     rw [this,hab]
     exact SeqAt.EqAt.same _
   · obtain ⟨i1,r1,p1,z1⟩ := I.list ha
     obtain ⟨i2,r2,p2,z2⟩ := I.list hb
     have l1 := r1.length
     have l2 := r2.length
     have := SeqAt.RcAt.lists (A := A) (e := e) p1.isList p2.isList (by simp; omega) (by omega) fun j h1 h2 => by
       have h1':j < i1.length := by simpa using h1
       have h2':j < i2.length := by simpa using h2
       have q := ih j (by omega) (A := A.in1) (yE r1 h1') (yE r2 h2') (by show A.units + 1 + n < cLine; omega)
       simpa using q
     rw [List.size_toArray,<- l1] at this
     exact SeqAt.EqAt.of_refs hab this
 | @lens n a b xs ys ha hb hl =>
   intro A u v ru rv hu
   cases ru
   cases rv
   obtain ⟨i1,r1,p1,z1⟩ := I.list ha
   obtain ⟨i2,r2,p2,z2⟩ := I.list hb
   have l1 := r1.length
   have l2 := r2.length
   have hab:a ≠ b := fun z => by subst z; exact hl (by rw [I.list_inj ha hb])
   exact SeqAt.EqAt.of_refs hab (SeqAt.RcAt.lists_lengths p1.isList p2.isList (by simp; omega) (by omega))
def rEqR (K:PySem.W.Frag) (neg:Bool):R2 := fun x y H Q => ∃ (a c:Addr) (n:Nat) (b:Bool),x = .ref a /\ y = .ref c /\ EqR K H n x y b /\ n <= 50 /\ Q (.bl (if neg then !b else b)) H
theorem Yx (hu:X.A.units + 64 < cLine):OpR X (compareOp .Eq) (rEqR X.K false) := by
 intro pins s σ H x y v u Q I rx ry h
 obtain ⟨a,c,n,b,rfl,rfl,e,hn,q⟩ := h
 cases rx
 cases ry
 have fin:∀ {k:Bool},k = b -> EP X pins σ Q (.bool k) s := fun z => ⟨.bl b,H,I,by rw [z]; rfl,q⟩
 cases e with
 | flat fx fy => exact absurd (show false = true from fx) Bool.false_ne_true
 | @tups n _ _ xs ys e ha hb he =>
   obtain ⟨i1,r1,p1,z1⟩ := I.tuple ha
   obtain ⟨i2,r2,p2,z2⟩ := I.tuple hb
   have l1 := r1.length
   have l2 := r2.length
   refine SeqAt.eq_tupleAt (e := e) (show s.heap.IsTuple a i1.toArray from p1) (show s.heap.IsTuple c i2.toArray from p2) (by omega) (fun j h1 h2 => ?_) (fin ?_)
   · have h1':j < i1.length := by simpa using h1
     have h2':j < i2.length := by simpa using h2
     have q := (he j (by omega) (by omega)).at I (A := X.A.in1) (yE r1 h1') (yE r2 h2') (by show X.A.units + 1 + n < cLine; omega)
     simpa using q
   · rw [List.size_toArray,List.size_toArray,<- l1,<- l2]
 | @lsts n _ _ xs ys e ha hb hl he =>
   obtain ⟨i1,r1,p1,z1⟩ := I.list ha
   obtain ⟨i2,r2,p2,z2⟩ := I.list hb
   have l1 := r1.length
   have l2 := r2.length
   refine SeqAt.eq_listAt (e := e) p1.isList p2.isList (by simp; omega) (by omega) (fun j h1 h2 => ?_) (fin ?_)
   · have h1':j < i1.length := by simpa using h1
     have h2':j < i2.length := by simpa using h2
     have q := (he j (by omega)).at I (A := X.A.in1) (yE r1 h1') (yE r2 h2') (by show X.A.units + 1 + n < cLine; omega)
     simpa using q
   · rw [List.size_toArray,<- l1]
 | @lens n _ _ xs ys ha hb hl =>
   obtain ⟨i1,r1,p1,z1⟩ := I.list ha
   obtain ⟨i2,r2,p2,z2⟩ := I.list hb
   have l1 := r1.length
   have l2 := r2.length
   exact SeqAt.eq_list_lengthsAt p1.isList p2.isList (by simp; omega) (by omega) (fin rfl)
theorem WS (hu:X.A.units + 64 < cLine):OpR X (compareOp .NotEq) (rEqR X.K true) := by
 intro pins s σ H x y v u Q I rx ry h
 obtain ⟨a,c,n,b,rfl,rfl,e,hn,q⟩ := h
 cases rx
 cases ry
 have fin:∀ {k:Bool},k = b -> EP X pins σ Q (.bool (!k)) s := fun z => ⟨.bl (!b),H,I,by rw [z]; rfl,q⟩
 cases e with
 | flat fx fy => exact absurd (show false = true from fx) Bool.false_ne_true
 | @tups n _ _ xs ys e ha hb he =>
   obtain ⟨i1,r1,p1,z1⟩ := I.tuple ha
   obtain ⟨i2,r2,p2,z2⟩ := I.tuple hb
   have l1 := r1.length
   have l2 := r2.length
   refine SeqAt.RcNeAt.tuples (e := e) (show s.heap.IsTuple a i1.toArray from p1) (show s.heap.IsTuple c i2.toArray from p2) (by omega) (fun j h1 h2 => ?_) _ _ _ _ (fin ?_)
   · have h1':j < i1.length := by simpa using h1
     have h2':j < i2.length := by simpa using h2
     have q := (he j (by omega) (by omega)).at I (A := X.A.in1) (yE r1 h1') (yE r2 h2') (by show X.A.units + 1 + n < cLine; omega)
     simpa using q
   · rw [List.size_toArray,List.size_toArray,<- l1,<- l2]
 | @lsts n _ _ xs ys e ha hb hl he =>
   obtain ⟨i1,r1,p1,z1⟩ := I.list ha
   obtain ⟨i2,r2,p2,z2⟩ := I.list hb
   have l1 := r1.length
   have l2 := r2.length
   refine SeqAt.RcNeAt.lists (e := e) p1.isList p2.isList (by simp; omega) (by omega) (fun j h1 h2 => ?_) _ _ _ _ (fin ?_)
   · have h1':j < i1.length := by simpa using h1
     have h2':j < i2.length := by simpa using h2
     have q := (he j (by omega)).at I (A := X.A.in1) (yE r1 h1') (yE r2 h2') (by show X.A.units + 1 + n < cLine; omega)
     simpa using q
   · rw [List.size_toArray,<- l1]
 | @lens n _ _ xs ys ha hb hl =>
   obtain ⟨i1,r1,p1,z1⟩ := I.list ha
   obtain ⟨i2,r2,p2,z2⟩ := I.list hb
   have l1 := r1.length
   have l2 := r2.length
   exact SeqAt.RcNeAt.lists_lengths p1.isList p2.isList (by simp; omega) (by omega) _ _ _ _ (fin (k := false) rfl)
end
end L2
namespace L2
open PySem PySem.Spec PyProof.Rows PySem.W
end L2
namespace L2
open PySem PySem.Spec PyProof.Rows
section
variable {g:TG} {tc:TT} {te:TE} {σ0:St} {H0:Hp} {R:List V -> Hp -> Prop} {K:PySem.W.Frag} {a:Addr} {xs:List V}
theorem xQ {J:It} {n:Nat} (Pv:Nat -> List V -> St -> Hp -> Prop) (h0:Pv 0 [] σ0 H0) (hz:∀ i ys σ H,i <= n -> Pv i ys σ H -> ys.length <= sizeLine) (hst:∀ ys σ H,Pv n ys σ H -> J.stop n H /\ R ys H)
   (hgo:∀ i ys σ H,i < n -> Pv i ys σ H -> J.go i H /\ ∀ x H2,J.yld i H x H2 -> g x σ H2 fun σ2 H3 => tc σ2 H3 fun b H4 => if b = true then te σ2 H4 fun y H5 => Pv (i + 1) (ys ++ [y]) σ2 H5 else Pv (i + 1) ys σ2 H4) :
   ∃ W:Nat -> Nat -> List V -> St -> Hp -> Prop,(∃ m,W 0 m [] σ0 H0) /\ ∀ i m ys σ' H',W i m ys σ' H' ->
     (J.stop i H' /\ ys.length <= sizeLine /\ R ys H') \/
     (J.go i H' /\ ys.length <= sizeLine /\ ∃ N:List V -> St -> Hp -> Prop,(∀ ys' σ2 H2,N ys' σ2 H2 -> ∃ m',m' < m /\ W (i + 1) m' ys' σ2 H2) /\
       ∀ x H2,J.yld i H' x H2 -> g x σ' H2 fun σ2 H3 => tc σ2 H3 fun b H4 => if b = true then te σ2 H4 fun y H5 => N (ys ++ [y]) σ2 H5 else N ys σ2 H4) := by
 refine ⟨fun i m ys σ H => m = n - i /\ i <= n /\ Pv i ys σ H,⟨n,by simp,Nat.zero_le _,h0⟩,?_⟩
 rintro i m ys σ H ⟨rfl,hi,p⟩
 by_cases hlt:i < n
 · obtain ⟨go,turn⟩ := hgo i ys σ H hlt p
   exact .inr ⟨go,hz i ys σ H hi p,Pv (i + 1),fun ys' σ' H' p' => ⟨n - (i + 1),by omega,rfl,hlt,p'⟩,turn⟩
 · have e:i = n := by omega
   subst e
   obtain ⟨st,r⟩ := hst ys σ H p
   exact .inl ⟨st,hz i ys σ H hi p,r⟩
theorem yv (Pv:Nat -> List V -> St -> Hp -> Prop) (h0:Pv 0 [] σ0 H0) (hz:∀ i ys σ H,i <= xs.length -> Pv i ys σ H -> ys.length <= sizeLine /\ SqL K H a xs) (hst:∀ ys σ H,Pv xs.length ys σ H -> R ys H)
   (hgo:∀ i x ys σ H,xs[i]? = some x -> Pv i ys σ H -> g x σ H fun σ2 H3 => tc σ2 H3 fun b H4 => if b = true then te σ2 H4 fun y H5 => Pv (i + 1) (ys ++ [y]) σ2 H5 else Pv (i + 1) ys σ2 H4) :
   ∃ W:Nat -> Nat -> List V -> St -> Hp -> Prop,(∃ m,W 0 m [] σ0 H0) /\ ∀ i m ys σ' H',W i m ys σ' H' ->
     ((Itl K a).stop i H' /\ ys.length <= sizeLine /\ R ys H') \/
     ((Itl K a).go i H' /\ ys.length <= sizeLine /\ ∃ N:List V -> St -> Hp -> Prop,(∀ ys' σ2 H2,N ys' σ2 H2 -> ∃ m',m' < m /\ W (i + 1) m' ys' σ2 H2) /\
       ∀ x H2,(Itl K a).yld i H' x H2 -> g x σ' H2 fun σ2 H3 => tc σ2 H3 fun b H4 => if b = true then te σ2 H4 fun y H5 => N (ys ++ [y]) σ2 H5 else N ys σ2 H4) :=
 xQ (n := xs.length) Pv h0 (fun i ys σ H hi p => (hz i ys σ H hi p).1) (fun ys σ H p => ⟨⟨xs,(hz _ ys σ H (Nat.le_refl _) p).2,Nat.le_refl _⟩,hst ys σ H p⟩)
   fun i ys σ H hi p => ⟨⟨xs,xs[i],(hz i ys σ H (Nat.le_of_lt hi) p).2,by simp [hi]⟩,fun x H2 y => by
     obtain ⟨e,y⟩ := y
     subst e
     exact hgo i x ys σ _ (y xs (hz i ys σ _ (Nat.le_of_lt hi) p).2) p⟩
theorem xR (Pv:Nat -> List V -> St -> Hp -> Prop) (h0:Pv 0 [] σ0 H0) (hz:∀ i ys σ H,i <= xs.length -> Pv i ys σ H -> ys.length <= sizeLine /\ SqT K H a xs) (hst:∀ ys σ H,Pv xs.length ys σ H -> R ys H)
   (hgo:∀ i x ys σ H,xs[i]? = some x -> Pv i ys σ H -> g x σ H fun σ2 H3 => tc σ2 H3 fun b H4 => if b = true then te σ2 H4 fun y H5 => Pv (i + 1) (ys ++ [y]) σ2 H5 else Pv (i + 1) ys σ2 H4) :
   ∃ W:Nat -> Nat -> List V -> St -> Hp -> Prop,(∃ m,W 0 m [] σ0 H0) /\ ∀ i m ys σ' H',W i m ys σ' H' ->
     ((Itt K a).stop i H' /\ ys.length <= sizeLine /\ R ys H') \/
     ((Itt K a).go i H' /\ ys.length <= sizeLine /\ ∃ N:List V -> St -> Hp -> Prop,(∀ ys' σ2 H2,N ys' σ2 H2 -> ∃ m',m' < m /\ W (i + 1) m' ys' σ2 H2) /\
       ∀ x H2,(Itt K a).yld i H' x H2 -> g x σ' H2 fun σ2 H3 => tc σ2 H3 fun b H4 => if b = true then te σ2 H4 fun y H5 => N (ys ++ [y]) σ2 H5 else N ys σ2 H4) :=
 xQ (n := xs.length) Pv h0 (fun i ys σ H hi p => (hz i ys σ H hi p).1) (fun ys σ H p => ⟨⟨xs,(hz _ ys σ H (Nat.le_refl _) p).2,Nat.le_refl _⟩,hst ys σ H p⟩)
   fun i ys σ H hi p => ⟨⟨xs,xs[i],(hz i ys σ H (Nat.le_of_lt hi) p).2,by simp [hi]⟩,fun x H2 y => by
     obtain ⟨e,y⟩ := y
     subst e
     exact hgo i x ys σ _ (y xs (hz i ys σ _ (Nat.le_of_lt hi) p).2) p⟩
theorem ZE {lo:Int} {n:Nat} (Pv:Nat -> List V -> St -> Hp -> Prop) (h0:Pv 0 [] σ0 H0) (hz:∀ i ys σ H,i <= n -> Pv i ys σ H -> ys.length <= sizeLine) (hst:∀ ys σ H,Pv n ys σ H -> R ys H)
   (hgo:∀ i ys σ H,i < n -> Pv i ys σ H -> g (.int (lo + i)) σ H fun σ2 H3 => tc σ2 H3 fun b H4 => if b = true then te σ2 H4 fun y H5 => Pv (i + 1) (ys ++ [y]) σ2 H5 else Pv (i + 1) ys σ2 H4) :
   ∃ W:Nat -> Nat -> List V -> St -> Hp -> Prop,(∃ m,W 0 m [] σ0 H0) /\ ∀ i m ys σ' H',W i m ys σ' H' ->
     ((Itr lo n).stop i H' /\ ys.length <= sizeLine /\ R ys H') \/
     ((Itr lo n).go i H' /\ ys.length <= sizeLine /\ ∃ N:List V -> St -> Hp -> Prop,(∀ ys' σ2 H2,N ys' σ2 H2 -> ∃ m',m' < m /\ W (i + 1) m' ys' σ2 H2) /\
       ∀ x H2,(Itr lo n).yld i H' x H2 -> g x σ' H2 fun σ2 H3 => tc σ2 H3 fun b H4 => if b = true then te σ2 H4 fun y H5 => N (ys ++ [y]) σ2 H5 else N ys σ2 H4) :=
 xQ (n := n) Pv h0 hz (fun ys σ H p => ⟨Nat.le_refl _,hst ys σ H p⟩) fun i ys σ H hi p => ⟨hi,fun x H2 y => by
   obtain ⟨e,y⟩ := y
   subst e y
   exact hgo i ys σ _ hi p⟩
end
end L2
namespace L2
open PySem PySem.Spec PyProof.Rows PySem.W
section
variable {X:Cx} {pins:List (Addr × Obj)} {σ:St} {H:Hp} {s:Shared}
theorem Yy {E:Value -> Shared -> Prop} {Q:Value -> Shared -> Prop} (I:Inv X pins σ H s) {l:Addr} {xs:List V} (hl:SqL X.K H l xs) (h64:xs.length < 64) (key:Nat -> Int) (κ:SortKind)
   (kind:2 <= xs.length -> ∀ (vs:List Value) (s':Shared) (pins':List (Addr × Obj)) (C:SortKind -> Shared -> Prop),Vals xs vs -> Inv X pins' σ H s' -> C κ s' -> wpAny (model X.prog X.w) X.A.in1.in1 (keyKind' vs.toArray) C E s')
   (less:∀ (vs:List Value) (s':Shared) (pins':List (Addr × Obj)) (i j:Nat) (C:Bool -> Shared -> Prop),i < xs.length -> j < xs.length -> Vals xs vs -> Inv X pins' σ H s' -> C (decide (key i < key j)) s' ->
     wpAny (model X.prog X.w) X.A.in1.in1 (keyLt' κ (vs.getD i Value.none) (vs.getD j Value.none)) C (fun _ _ => False) s')
   (q:∀ (D:Addr) (p:Array Nat) (s':Shared),H D = none -> Srt.Ord xs.length p -> Srt.Up key p xs.length -> Inv X pins σ (upd H D (.lst (p.toList.map fun i => xs.getD i .non))) s' -> Q (.ref D) s') :
   wpAny (model X.prog X.w) X.A (call (.builtin "sorted") [.ref l]) Q E s := by
 obtain ⟨vs,rv,pl,hz⟩ := I.list hl
 have lv := rv.length
 have hsm:vs.length <= sizeLine := by omega
 refine Calls.call_function_entry kind_sorted plain_sorted entry_sorted (args_sorted1 _) ?_
 unfold Builtin.«sorted»
 refine wpAny_bind (m := checkCount "sorted" 1 1 _) (wpAny_pure ?_)
 refine wpAny_bind (collect_list pl.isList ?_ hsm)
 refine wpAny_bind (wpAny_newList ?_ hsm)
 have z1:((s.heap.push (seqObj "list" #[] 0)).update s.heap.objs.size (Obj.mapSeq (· ++ vs.toArray))).objs.size = s.heap.objs.size + 1 := by rw [Heap.size_update,size_push']
 have keep1:∀ b o,s.heap.get? b = some o -> (((s.heap.push (seqObj "list" #[] 0)).update s.heap.objs.size (Obj.mapSeq (· ++ vs.toArray))).push (seqObj "list" vs.toArray 0)).get? b = some o := fun b o e => by
   have hlt:b < s.heap.objs.size := Heap.lt_size e
   rw [Heap.get?_push_ne _ _ _ (by rw [z1]; exact Nat.ne_of_lt (Nat.lt_succ_of_lt hlt)),Heap.get?_update_ne _ _ _ _ (Nat.ne_of_lt hlt),Heap.get?_push_ne _ _ _ (Nat.ne_of_lt hlt)]
   exact e
 generalize hh1:((s.heap.push (seqObj "list" #[] 0)).update s.heap.objs.size (Obj.mapSeq (· ++ vs.toArray))).push (seqObj "list" vs.toArray 0) = h1' at keep1 ⊢
 have hD1:h1'.get? (s.heap.objs.size + 1) = some (seqObj "list" vs.toArray 0) := by
   rw [<- hh1,<- z1]; exact Heap.get?_push_size _ rfl
 show wpAny _ _ _ _ _ { s with heap := h1' }
 rw [z1]
 clear hh1
 have yD:jM X pins (s.heap.objs.size + 1) := I.young (Nat.le_succ _)
 have nD0:H (s.heap.objs.size + 1) = none := I.hok.fresh (Nat.le_succ _)
 generalize hDD:s.heap.objs.size + 1 = D at hD1 yD nD0 ⊢
 have I1:Inv X pins σ H { s with heap := h1' } := I.kept (t' := s.toks) keep1
 refine wpAny_bind (wpAny_holding (wpAny_call_entry slot_list_sort ⟨_,hD1,rfl⟩ entry_list_sort ?body (args_list_sort _)))
 case body =>
   rw [list_sort_plain]
   refine wpAny_bind (listItems_at hD1 rfl ?_)
   refine wpAny_bind (listUpdate_at hD1 rfl ?_ (by rw [List.size_toArray]; omega) (Nat.zero_le _))
   have sb := Heap.SameBut.update h1' D (Obj.mapSeq fun _ => (#[]:Array Value))
   obtain ⟨e1,hD2⟩ : ∃ e1,(h1'.update D (Obj.mapSeq fun _ => (#[]:Array Value))).get? D = some (seqObj "list" #[] e1) := ⟨_,get?_update_seq hD1 fun _ => #[]⟩
   have I2 := I1.record (h' := h1'.update D (Obj.mapSeq fun _ => (#[]:Array Value))) yD nD0 sb
   generalize h1'.update D (Obj.mapSeq fun _ => (#[]:Array Value)) = h2' at hD2 I2 ⊢
   refine wpAny_bind (seqEpoch_at hD2 rfl ?_)
   refine wpAny_bind (wpAny_newTuple ?_ hsm)
   refine wpAny_bind (wpAny_newList ?_ (Nat.zero_le _))
   refine wpAny_holding ?_
   have I3:Inv X pins σ H { s with heap := (h2'.push { cls := .type "tuple",data := .seq vs.toArray }).push { cls := .type "list",data := .seq ([]:List Value).toArray } } :=
     I2.kept (t' := s.toks) fun b o e => Heap.get?_push_of_some _ (Heap.get?_push_of_some _ e)
   have hD3:((h2'.push { cls := .type "tuple",data := .seq vs.toArray }).push { cls := .type "list",data := .seq ([]:List Value).toArray }).get? D = some (seqObj "list" #[] e1) := Heap.get?_push_of_some _ (Heap.get?_push_of_some _ hD2)
   dsimp only
   show wpAny _ _ _ _ _ { s with heap := (h2'.push { cls := .type "tuple",data := .seq vs.toArray }).push { cls := .type "list",data := .seq ([]:List Value).toArray } }
   generalize (h2'.push { cls := .type "tuple",data := .seq vs.toArray }).push { cls := .type "list",data := .seq ([]:List Value).toArray } = h3' at I3 hD3 ⊢
   have tail:∀ (st:SortSt) (p:Array Nat),arrOf st = p.map (kas_item (vs.toArray.zip vs.toArray)) -> failedOf st = none -> Srt.Ord xs.length p -> Srt.Up key p xs.length ->
       wpAny (model X.prog X.w) X.A.in1.in1 (do
         let sorted := (arrOf st).map (·.2)
         let touched := (<- seqEpoch D) != e1
         Builtin.List.listUpdate (.ref D) fun _ => sorted
         if let some e := failedOf st then rule "list.sort.comparison-raised"; throw e
         if touched then rule "list.sort.modified"; raiseError "ValueError" "list modified during sort"
         ret .none) (fun fin s'' => ∃ v,fin = .done (.ret v) /\ wpAny (model X.prog X.w) X.A.in1 (ret (.ref D)) (fun fin s3 => ∃ v,fin = .done (.ret v) /\ Q v s3) E s'') E { s with heap := h3' } := by
     intro st p ha hf po pu
     have out := kat_snds (ks := vs) (vs := vs) rfl ha
     dsimp only
     rw [out,hf]
     have plen:(p.toList.map fun i => vs.getD i Value.none).length = vs.length := by rw [List.length_map,Array.length_toList,po.sz,lv]
     refine wpAny_bind (seqEpoch_at hD3 rfl ?_)
     refine wpAny_bind (listUpdate_at hD3 rfl ?_ (Nat.zero_le _) (by rw [List.size_toArray,plen]; omega))
     have sb2 := Heap.SameBut.update h3' D (Obj.mapSeq fun _ => (p.toList.map fun i => vs.getD i Value.none).toArray)
     have J2 := I3.record yD nD0 sb2
     obtain ⟨c3,hD5⟩ : ∃ c3,(h3'.update D (Obj.mapSeq fun _ => (p.toList.map fun i => vs.getD i Value.none).toArray)).get? D = some (seqObj "list" (p.toList.map fun i => vs.getD i Value.none).toArray c3) := ⟨_,get?_update_seq hD3 _⟩
     generalize h3'.update D (Obj.mapSeq fun _ => (p.toList.map fun i => vs.getD i Value.none).toArray) = h6 at J2 hD5 ⊢
     simp only [bne_self_eq_false,Bool.false_eq_true,if_false]
     have rel:Vals (p.toList.map fun i => xs.getD i .non) (p.toList.map fun i => vs.getD i Value.none) := by
       have:∀ (ls:List Nat),(∀ i ∈ ls,i < xs.length) -> Vals (ls.map fun i => xs.getD i .non) (ls.map fun i => vs.getD i Value.none) := by
         intro ls
         induction ls with
         | nil => intro _; exact .nil
         | cons a r ih =>
           intro h
           refine .cons ?_ (ih fun i hi => h i (List.mem_cons_of_mem _ hi))
           have ha := h a List.mem_cons_self
           have := yE rv (j := a) (by omega)
           show RelV (xs.getD a .non) (vs.getD a Value.none)
           rw [getD_at (xs := vs) (by omega:a < vs.length)]
           exact this
       refine this _ fun i hi => ?_
       have m:i ∈ p := by simpa using hi
       have m2:i ∈ (List.toArray (List.range xs.length)) := (Array.Perm.mem_iff po.pm).mp m
       simpa using m2
     have J3 := J2.track (p := D) (o := .lst (p.toList.map fun i => xs.getD i .non)) nD0 (Heap.get?_none_of_le (by rw [<- hDD]; have := I.sz; omega)) yD.lo yD.ce yD.pi
       ⟨by rw [List.length_map,Array.length_toList,po.sz]; omega,_,c3,rel,hD5⟩
     exact wpAny_pure ⟨_,rfl,wpAny_pure ⟨_,rfl,q D p _ nD0 po pu J3⟩⟩
   by_cases h2:vs.toArray.size < 2
   · rw [if_pos h2,if_pos h2]
     rw [List.size_toArray] at h2
     refine wpAny_bind (wpAny_pure ?_)
     rw [StateT.run_pure]
     refine wpAny_bind (wpAny_pure ?_)
     dsimp only
     refine tail _ (List.toArray (List.range xs.length)) ?_ rfl ⟨by simp,Array.Perm.refl _⟩ fun i i1 i2 => by omega
     show vs.toArray.zip vs.toArray = _
     have e := kas_range (vs.toArray.zip vs.toArray)
     rw [show (vs.toArray.zip vs.toArray).size = xs.length by simp; omega] at e
     exact e.symm
   · rw [if_neg h2,if_neg h2]
     rw [List.size_toArray] at h2
     refine wpAny_bind (kind (by omega) vs _ pins _ rv I3 ?_)
     have run := ZB (key := key) (n := vs.length) (cmp := kas_ask X.prog X.w X.A.in1.in1 κ vs) (s := { s with heap := h3' }) (Q := fun r => Srt.Ord vs.length r /\ Srt.Up key r vs.length) (fun i j C hi hj hC => ?_) _ (Srt.QS (n := vs.length) (by omega))
     · refine wpAny_bind (wpAny_mono (kat_run (Q := fun st' s'' => ∃ p,arrOf st' = p.map (kas_item (vs.toArray.zip vs.toArray)) /\ failedOf st' = none /\ (Srt.Ord vs.length p /\ Srt.Up key p vs.length) /\ s'' = { s with heap := h3' }) rfl (by omega) (by omega)
         (fun p st' s'' a1 a2 a3 a4 => ⟨p,a2,a3,a4.1,a4.2⟩) run) ?_ fun _ _ x => x)
       rintro ⟨⟨⟩,st'⟩ s'' ⟨p,a2,a3,⟨a4,a5⟩,rfl⟩
       dsimp only
       rw [<- lv] at a4 a5
       exact tail st' p a2 a3 a4 a5
     · exact less vs _ pins i j C (by omega) (by omega) rv I3 hC
end
def za4 (K:Frag) (tl:TE):TE := fun σ H Q => tl σ H fun x H1 => ∃ (l:Addr) (xs:List V) (ns:List Int) (rest:List (List V)),x = .ref l /\ SqL K H1 l xs /\ xs.length < 64 /\ ns.length = xs.length /\ rest.length = xs.length /\ ns.Nodup /\
 (∀ (i:Nat) (x:V) (n:Int) (r:List V),xs[i]? = some x -> ns[i]? = some n -> rest[i]? = some r -> ∃ p,x = .ref p /\ H1 p = some (.tup (.int n :: r)) /\ r.length = 1) /\
 ∀ (D:Addr) (p:Array Nat),H1 D = none -> Srt.Ord xs.length p -> Srt.Up (fun i => ns.getD i 0) p xs.length -> Q (.ref D) (upd H1 D (.lst (p.toList.map fun i => xs.getD i .non)))
theorem QX {X:Cx} {l:Expr} {tl:TE} {p pos:Pos} (hg:Gl X "sorted") (hm:X.mg "sorted" = none) (hl:PE X l tl) (hs:starEach [l] X.env = [(false,eval l X.env)] := by rfl):PE X (.Call (.Name "sorted" p) [l] [] pos) (za4 X.K tl) := by
 intro pins s σ H Q I h
 refine wpAny_Call_Name_kw (yQ I hg hm boot_sorted ?_ (by decide) (by decide))
 refine PyProof.Rows.callWith_builtin1 (thn ((za hl zb hs) pos pins s σ H (fun vs H1 => match vs with
   | [x] => ∃ (l:Addr) (xs:List V) (ns:List Int) (rest:List (List V)),x = .ref l /\ SqL X.K H1 l xs /\ xs.length < 64 /\ ns.length = xs.length /\ rest.length = xs.length /\ ns.Nodup /\
     (∀ (i:Nat) (x:V) (n:Int) (r:List V),xs[i]? = some x -> ns[i]? = some n -> rest[i]? = some r -> ∃ p,x = .ref p /\ H1 p = some (.tup (.int n :: r)) /\ r.length = 1) /\
     ∀ (D:Addr) (p:Array Nat),H1 D = none -> Srt.Ord xs.length p -> Srt.Up (fun i => ns.getD i 0) p xs.length -> Q (.ref D) (upd H1 D (.lst (p.toList.map fun i => xs.getD i .non)))
   | _ => False) I h) fun us s1 ⟨vs,H1,I1,r1,q1⟩ => ?_) (by rw [hs]; rfl) (by rfl)
 match vs,q1 with
 | [x],q1 =>
 obtain ⟨u,rfl,ru⟩ := vals1 r1
 obtain ⟨la,xs,ns,rest,rfl,hL,h64,hns,hrs,nd,items,q⟩ := q1
 cases (show u = Value.ref la from ru)
 have tupAt:∀ {pins':List (Addr × Obj)} {s':Shared} {vs:List Value},Vals xs vs -> Inv X pins' σ H1 s' -> ∀ i,i < xs.length -> ∃ (p:Addr) (o:Obj) (m:Nat) (t:Tok) (w:Value),vs.getD i Value.none = .ref p /\ s'.heap.get? p = some o /\ o.cls = .type "tuple" /\ o.data = .seq #[.int (ns.getD i 0) t,w] m := by
   intro pins' s' vs rv I' i hi
   have e1:xs[i]? = some xs[i] := List.getElem?_eq_getElem hi
   have e2:ns[i]? = some ns[i] := List.getElem?_eq_getElem (by omega)
   have e3:rest[i]? = some rest[i] := List.getElem?_eq_getElem (by omega)
   obtain ⟨p,hp,hH,hr⟩ := items i _ _ _ e1 e2 e3
   obtain ⟨_,its,r,⟨o,e,c,m,d⟩⟩ := I'.hok p _ hH
   have lv := rv.length
   have ev := yE rv (j := i) (by omega)
   rw [getD_at hi,hp] at ev
   cases r with
   | cons r1 rr =>
     obtain ⟨t,rfl⟩ := r1
     generalize rest[i] = rs at rr hr
     cases rr with
     | nil => simp at hr
     | @cons a b c' d' r2 rr =>
       cases rr with
       | nil =>
         refine ⟨p,o,m,t,b,?_,e,c,?_⟩
         · rw [getD_at (by omega:i < vs.length)]; exact ev
         · rw [d,getD_at (by omega:i < ns.length)]
       | cons _ _ => simp at hr
 refine Yy I1 hL h64 (fun i => ns.getD i 0) (tuples' true) (fun h2 vs s' pins' C rv I' hC => ?_) (fun vs s' pins' i j C hi hj rv I' hC => ?_) fun D p s' hD po pu I' => ⟨.ref D,_,I',rfl,q D p hD po pu⟩
 · have lv := rv.length
   have KT:∀ (k:Nat),k <= vs.length -> ∃ fs:List Value,fs.length = vs.length - k /\ KatTups s'.heap (vs.drop k) fs /\ ∀ v ∈ fs,∃ i t,v = Value.int i t := by
     intro k hk
     generalize hd:vs.length - k = d
     induction d generalizing k with
     | zero =>
       refine ⟨[],rfl,?_,fun v hv => nomatch hv⟩
       rw [List.drop_of_length_le (by omega)]
       exact KatTups.nil
     | succ d ih =>
       obtain ⟨fs,f1,f2,f3⟩ := ih (k + 1) (by omega) (by omega)
       obtain ⟨p,o,m,t,w,g1,g2,g3,g4⟩ := tupAt rv I' k (by omega)
       rw [getD_at (by omega:k < vs.length)] at g1
       refine ⟨.int (ns.getD k 0) t :: fs,by rw [List.length_cons,f1],?_,fun v hv => ?_⟩
       · rw [<- List.getElem_cons_drop (show k < vs.length by omega),g1]
         exact KatTups.cons g2 g3 g4 rfl f2
       · rcases List.mem_cons.mp hv with rfl | hv
         · exact ⟨_,_,rfl⟩
         · exact f3 v hv
   obtain ⟨fs,f1,f2,f3⟩ := KT 0 (Nat.zero_le _)
   rw [List.drop_zero] at f2
   refine kat_kind f2 (by omega) (T := .type "int") (fun v hv => ?_) (by decide) ?_
   · obtain ⟨i,t,rfl⟩ := f3 v hv
     exact Looks.of_pure rfl
   have hkind:(Value.type "int" != Value.type "tuple") = true := by decide
   rw [hkind]
   exact hC
 · obtain ⟨p1,o1,m1,t1,w1,a1,a2,_,a4⟩ := tupAt rv I' i hi
   obtain ⟨p2,o2,m2,t2,w2,b1,b2,_,b4⟩ := tupAt rv I' j hj
   rw [a1,b1]
   refine kat_lt a2 a4 b2 b4 ?_
   show KatLex _ _ _ true _ _ [(Value.int (ns.getD i 0) t1,Value.int (ns.getD j 0) t2),(w1,w2)] 0 s'
   refine kat_cons (wpAny_eqBool_int ?_)
   by_cases e:ns.getD i 0 = ns.getD j 0
   · have hij:i = j := by
       have e' := e
       rw [getD_at (by omega:i < ns.length),getD_at (by omega:j < ns.length)] at e'
       exact (List.getElem_inj nd).mp e'
     subst hij
     rw [a1] at b1
     cases b1
     rw [a2] at b2
     cases b2
     rw [a4] at b4
     injection b4 with b4 _
     have b5:[Value.int (ns.getD i 0) t1,w1] = [Value.int (ns.getD i 0) t2,w2] := congrArg Array.toList b4
     injection b5 with b6 b7
     injection b7 with b8 _
     subst b8
     rw [beq_self_eq_true]
     refine kat_yes (kat_cons (SeqAt.EqAt.same w1 _ _ _ _ ?_))
     refine kat_yes (kat_nil ?_)
     have z:decide (ns.getD i 0 < ns.getD i 0) = false := decide_eq_false (by omega)
     rw [z] at hC
     exact hC
   · rw [beq_eq_false_iff_ne.mpr e]
     exact kat_no (oneLt_int hC)
end L2
namespace L2
open PySem PySem.Spec PyProof.Rows PySem.W
def txt (l:List Nat):Str := ⟨l.toArray⟩
theorem zL (l:List Nat):(txt l).length = l.length := by simp [txt,Str.length]
theorem J6 {a b:List Nat} (h:txt a = txt b):a = b := by
 have:(txt a).cps.toList = (txt b).cps.toList := by rw [h]
 simpa [txt] using this
theorem ZF (c:Nat):∀ (n:Nat) (acc:Array Nat),(List.replicate n (#[c]:Array Nat)).foldl (· ++ ·) acc = acc ++ (List.replicate n c).toArray
 | 0,acc => by simp
 | n + 1,acc => by
   rw [List.replicate_succ,List.foldl_cons,ZF c n (acc ++ #[c])]
   apply Array.toList_inj.mp
   simp [List.replicate_succ]
theorem Yz {c:Nat} {n:Int} (h0:0 <= n):Txt.mul (txt [c]) n = txt (List.replicate n.toNat c) := by
 unfold Txt.mul
 by_cases h1:n < 1
 · rw [if_pos h1]
   have e:n.toNat = 0 := by omega
   rw [e]
   rfl
 · rw [if_neg h1]
   by_cases h2:n = 1
   · subst h2
     rfl
   · have e:(n == 1 || (txt [c]).length == 0) = false := by
       rw [beq_eq_false_iff_ne.mpr h2]
       rfl
     rw [e,if_neg Bool.false_ne_true]
     have := ZF c n.toNat #[]
     show (⟨(List.replicate n.toNat (#[c]:Array Nat)).foldl (· ++ ·) #[]⟩ : Str) = _
     rw [this]
     simp [txt]
section
variable {X:Cx}
theorem J7:OpR X (binaryOp .Mult) (fun x y H Q => ∃ (c:Nat) (n:Int),x = .str (txt [c]) /\ y = .int n /\ 0 <= n /\ n <= 1000000 /\ Q (.str (txt (List.replicate n.toNat c))) H) := by
 intro pins s σ H x y v u Q I rx ry h
 obtain ⟨c,n,rfl,rfl,h0,h1,q⟩ := h
 obtain ⟨t,rfl⟩ := rx
 obtain ⟨t',rfl⟩ := ry
 have hl:(txt [c]).length = 1 := rfl
 refine SB.mul ⟨?_,fun _ _ => ?_,fun _ _ => ?_⟩ fun tk k => ⟨.str _,H,I.tok k,⟨tk,by rw [Yz h0]⟩,q⟩
 · rw [decide_eq_false (by omega),decide_eq_false (by omega)]
   rfl
 · rw [hl]
   have hn:0 < n := by omega
   intro z
   have z':(2 ^ 63 - 1) / n < 1 := by simpa using z
   have := (Int.ediv_lt_iff_lt_mul hn).mp z'
   omega
 · rw [hl]
   unfold Builtin.Str.tooLong sizeLine
   rw [decide_eq_false_iff_not]
   omega
theorem ZG:∀ {zs:List Str} {us:List Value},Vals (zs.map V.str) us -> StrsAre us zs
 | [],_,.nil => .nil
 | z :: zs,_,.cons ⟨t,e⟩ r => by
   subst e
   exact .cons z t (ZG r)
theorem ZH:∀ (ls:List (List Nat)),Str.join Str.empty (ls.map txt) = txt ls.flatten
 | [] => rfl
 | [a] => by
   show txt a = txt (a ++ [])
   rw [List.append_nil]
 | a :: b :: r => by
   have ih := ZH (b :: r)
   show txt a ++ Str.empty ++ Str.join Str.empty ((b :: r).map txt) = _
   rw [ih,Str.append_empty]
   refine Str.ext' ?_
   rw [Str.cps_append]
   apply Array.toList_inj.mp
   simp [txt]
theorem QY:MtR X "str.join" (fun x vs H Q => ∃ (a:Addr) (ls:List (List Nat)),x = .str "" /\ vs = [.ref a] /\ SqL X.K H a (ls.map fun l => V.str (txt l)) /\ (ls.map List.length).sum <= 1000000 /\ Q (.str (txt ls.flatten)) H) := by
 intro pins s σ H x xs v us Q I rx rxs h
 obtain ⟨a,ls,rfl,rfl,hq,hn,q⟩ := h
 obtain ⟨t,rfl⟩ := rx
 obtain ⟨u,rfl,ru⟩ := vals1 rxs
 cases ru
 obtain ⟨its,rv,tp,hz⟩ := I.list hq
 have rv':Vals ((ls.map txt).map V.str) its := by rw [List.map_map]; exact rv
 refine join_list (ys := ls.map txt) tp.isList (by simpa using ZG rv') ?_ fun t' k => ⟨.str _,H,I.tok k,⟨t',?_⟩,q⟩
 · rw [List.map_map]
   have e1:(ls.map ((fun x => x.length) ∘ txt)) = ls.map List.length := List.map_congr_left fun l _ => zL l
   rw [e1]
   have e2:("" : Str).length = 0 := rfl
   rw [e2,Nat.mul_zero]
   omega
 · show Value.str (Txt.join "" (ls.map txt)) t' = _
   have e:Txt.join "" (ls.map txt) = txt ls.flatten := by
     unfold Txt.join
     rw [StrLaws.glued_eq_join]
     exact ZH ls
   rw [e]
def rIxC:R2 := fun x y H Q => ∃ (l:List Nat) (i:Int) (c:Nat),x = .str (txt l) /\ y = .int i /\ l.length <= 1000000 /\ atI l i = some c /\ Q (.str (txt [c])) H
theorem qJ:IxR X rIxC := by
 intro value slice pins s σ H x y v u Q I rx ry h hs
 obtain ⟨l,i,c,rfl,rfl,hl,hc,q⟩ := h
 exact za1 value slice pins s σ H _ _ v u Q I rx ry ⟨txt l,i,c,rfl,rfl,by rw [zL]; exact Nat.le_trans hl (by decide),by simpa [txt] using hc,q⟩ hs
end
end L2
namespace L2
open PySem PySem.Spec PyProof.Rows PySem.W
section
variable {X:Cx} {K:Frag}
theorem yV (hK:X.K = K):IxR X (rIxT K) := by subst hK; exact zN
theorem wv {es:List Expr} {k:Nat} {t:TGs} {n:Nat} {pos:Pos} (hK:X.K = K) (hc:X.calm = true) (h:PGs X es t)
   (hn:(assignEach es X.env).length = n := by rfl) (hs:(assignEach es X.env).findIdx? (·.1) = none := by rfl):PG X (.Tuple es k pos) (gTup K n t) := by
 subst hK
 exact qg hc h hn hs
end
end L2
namespace Lin
abbrev W := List Nat
def glue:List W -> W
 | [] => []
 | [a] => a
 | a :: b :: r => a ++ 32 :: glue (b :: r)
theorem ZI:∀ (ws:List W) (w:W),ws ≠ [] -> glue (ws ++ [w]) = glue ws ++ 32 :: w
 | [],_,h => absurd rfl h
 | [a],w,_ => rfl
 | a :: b :: r,w,_ => by
   have ih:glue (b :: (r ++ [w])) = glue (b :: r) ++ 32 :: w := ZI (b :: r) w (by simp)
   show a ++ 32 :: glue (b :: (r ++ [w])) = (a ++ 32 :: glue (b :: r)) ++ 32 :: w
   rw [ih]
   simp
theorem snoc_ind {P:List W -> Prop} (h0:P []) (h1:∀ ws w,P ws -> P (ws ++ [w])):∀ (n:Nat) (ws:List W),ws.length = n -> P ws
 | 0,ws,h => by rw [List.length_eq_zero_iff.mp h]; exact h0
 | n + 1,ws,h => by
   have hn:ws ≠ [] := fun z => by rw [z] at h; cases h
   rw [<- List.dropLast_concat_getLast hn]
   exact h1 _ _ (snoc_ind h0 h1 n _ (by rw [List.length_dropLast,h]; rfl))
def put (wide:Int) (rows:List W) (w:W):List W :=
 match rows.getLast? with
 | some r => if (r.length:Int) + 1 + w.length <= wide then rows.dropLast ++ [r ++ 32 :: w] else rows ++ [w]
 | none => [w]
def taken (wide:Int) (ws:List W):List W := ws.foldl (put wide) []
theorem xf (wide:Int) (ws:List W) (w:W):taken wide (ws ++ [w]) = put wide (taken wide ws) w := by
 unfold taken
 rw [List.foldl_append]
 rfl
theorem wT {rows:List W} {r:W} (h:rows.getLast? = some r):rows = rows.dropLast ++ [r] := by
 have hn:rows ≠ [] := fun z => by rw [z] at h; cases h
 rw [List.getLast?_eq_some_getLast hn] at h
 rw [<- Option.some.inj h]
 exact (List.dropLast_concat_getLast hn).symm
theorem za5 {wide:Int} {rows:List W} {w:W} (h:∀ r ∈ rows,(r.length:Int) <= wide) (hw:(w.length:Int) <= wide):∀ r ∈ put wide rows w,(r.length:Int) <= wide := by
 intro r hr
 unfold put at hr
 split at hr
 · rename_i q e
   split at hr
   · rename_i c
     rcases List.mem_append.mp hr with m | m
     · exact h r (List.dropLast_subset _ m)
     · rw [List.mem_singleton.mp m,List.length_append,List.length_cons]
       omega
   · rcases List.mem_append.mp hr with m | m
     · exact h r m
     · rw [List.mem_singleton.mp m]
       exact hw
 · rw [List.mem_singleton.mp hr]
   exact hw
theorem QZ {wide:Int} (ws:List W):(∀ w ∈ ws,(w.length:Int) <= wide) -> ∀ r ∈ taken wide ws,(r.length:Int) <= wide :=
 snoc_ind (P := fun ws => (∀ w ∈ ws,(w.length:Int) <= wide) -> ∀ r ∈ taken wide ws,(r.length:Int) <= wide) (fun _ r hr => (List.not_mem_nil hr).elim)
   (fun ws w ih h => by
     rw [xf]
     exact za5 (ih fun v hv => h v (List.mem_append_left _ hv)) (h w (by simp))) _ ws rfl
theorem XZ (wide:Int) (rows:List W) (w:W):(put wide rows w).length <= rows.length + 1 := by
 unfold put
 split
 · rename_i r e
   split
   · have := wT e
     have e2:rows.length = rows.dropLast.length + 1 := by
       conv => lhs; rw [this,List.length_append]
       rfl
     rw [List.length_append,List.length_singleton]
     omega
   · simp
 · simp
theorem qp (wide:Int) (ws:List W):(taken wide ws).length <= ws.length :=
 snoc_ind (P := fun ws => (taken wide ws).length <= ws.length) (Nat.le_refl _) (fun ws w ih => by
   rw [xf,List.length_append,List.length_singleton]
   exact Nat.le_trans (XZ _ _ _) (Nat.succ_le_succ ih)) _ ws rfl
def pos (ws:List W) (k:Nat):Int := ((ws.take k).map (fun w => (w.length:Int) + 1)).sum
theorem jp (ws:List W):pos ws 0 = 0 := rfl
theorem pos_succ {ws:List W} {k:Nat} {w:W} (h:ws[k]? = some w):pos ws (k + 1) = pos ws k + w.length + 1 := by
 obtain ⟨hk,e⟩ := List.getElem?_eq_some_iff.mp h
 unfold pos
 rw [<- List.take_append_getElem hk,List.map_append,List.sum_append,e]
 show _ + (((w.length:Int) + 1) + 0) = _
 omega
theorem Q0 (ws:List W) (k:Nat):pos ws k <= pos ws (k + 1) := by
 by_cases h:k < ws.length
 · rw [pos_succ (List.getElem?_eq_getElem h)]
   omega
 · unfold pos
   rw [List.take_of_length_le (by omega),List.take_of_length_le (by omega)]
   exact Int.le_refl _
theorem x4 (ws:List W) {i:Nat}:∀ {j:Nat},i <= j -> pos ws i <= pos ws j
 | 0,h => by rw [Nat.le_zero.mp h]; exact Int.le_refl _
 | j + 1,h => by
   rcases Nat.lt_or_ge i (j + 1) with z | z
   · exact Int.le_trans (x4 ws (Nat.le_of_lt_succ z)) (Q0 ws j)
   · rw [Nat.le_antisymm h z]
     exact Int.le_refl _
def gr (ws:List W) (wide:Int):Nat -> Nat × Nat
 | 0 => (0,0)
 | k + 1 => if (gr ws wide k).1 ≠ 0 /\ pos ws (k + 1) - pos ws (gr ws wide k).2 - 1 <= wide then gr ws wide k else ((gr ws wide k).1 + 1,k)
section
variable {ws:List W} {wide:Int}
theorem ww {k:Nat} (h:(gr ws wide k).1 ≠ 0 /\ pos ws (k + 1) - pos ws (gr ws wide k).2 - 1 <= wide):gr ws wide (k + 1) = gr ws wide k := by
 conv => lhs; unfold gr
 rw [if_pos h]
theorem wU {k:Nat} (h:¬ ((gr ws wide k).1 ≠ 0 /\ pos ws (k + 1) - pos ws (gr ws wide k).2 - 1 <= wide)):gr ws wide (k + 1) = ((gr ws wide k).1 + 1,k) := by
 conv => lhs; unfold gr
 rw [if_neg h]
theorem WT:∀ {k:Nat},0 < k -> 0 < (gr ws wide k).1
 | k + 1,_ => by
   by_cases h:(gr ws wide k).1 ≠ 0 /\ pos ws (k + 1) - pos ws (gr ws wide k).2 - 1 <= wide
   · rw [ww h]; omega
   · rw [wU h]; exact Nat.succ_pos _
theorem J8 (k:Nat):(gr ws wide k).1 <= (gr ws wide (k + 1)).1 /\ (gr ws wide (k + 1)).1 <= (gr ws wide k).1 + 1 := by
 by_cases h:(gr ws wide k).1 ≠ 0 /\ pos ws (k + 1) - pos ws (gr ws wide k).2 - 1 <= wide
 · rw [ww h]; omega
 · rw [wU h]; exact ⟨Nat.le_succ _,Nat.le_refl _⟩
theorem JD:∀ k:Nat,(gr ws wide k).1 <= k
 | 0 => Nat.le_refl _
 | k + 1 => Nat.le_trans (J8 k).2 (Nat.succ_le_succ (JD k))
theorem YA:∀ {k:Nat},0 < k -> (gr ws wide k).2 < k /\ (gr ws wide k).1 = (gr ws wide (gr ws wide k).2).1 + 1
 | k + 1,_ => by
   by_cases h:(gr ws wide k).1 ≠ 0 /\ pos ws (k + 1) - pos ws (gr ws wide k).2 - 1 <= wide
   · rw [ww h]
     have hk:0 < k := Nat.pos_of_ne_zero fun z => by
       rw [z] at h
       exact h.1 rfl
     have := YA hk
     exact ⟨Nat.lt_succ_of_lt this.1,this.2⟩
   · rw [wU h]
     exact ⟨Nat.lt_succ_self _,rfl⟩
theorem za6 (hw:∀ w ∈ ws,(w.length:Int) <= wide):∀ {k:Nat},0 < k -> k <= ws.length -> pos ws k - pos ws (gr ws wide k).2 - 1 <= wide
 | k + 1,_,hk => by
   by_cases h:(gr ws wide k).1 ≠ 0 /\ pos ws (k + 1) - pos ws (gr ws wide k).2 - 1 <= wide
   · rw [ww h]
     exact h.2
   · rw [wU h]
     have := pos_succ (List.getElem?_eq_getElem (show k < ws.length by omega))
     have := hw _ (List.getElem_mem (show k < ws.length by omega))
     dsimp only
     omega
theorem qr {f k:Nat} (hf:pos ws k - pos ws f - 1 <= wide):∀ j,f <= j -> j <= k -> (gr ws wide j).1 = (gr ws wide f).1 \/ ((gr ws wide j).1 = (gr ws wide f).1 + 1 /\ f <= (gr ws wide j).2)
 | 0,h,_ => by rw [Nat.le_zero.mp h]; exact .inl rfl
 | j + 1,h,hk => by
   rcases Nat.lt_or_ge j f with z | z
   · rw [show f = j + 1 by omega]
     exact .inl rfl
   · by_cases c:(gr ws wide j).1 ≠ 0 /\ pos ws (j + 1) - pos ws (gr ws wide j).2 - 1 <= wide
     · rw [ww c]
       exact qr hf j z (Nat.le_of_succ_le hk)
     · rcases qr hf j z (Nat.le_of_succ_le hk) with a | ⟨a,b⟩
       · rw [wU c]
         exact .inr ⟨by rw [a],z⟩
       · exfalso
         apply c
         refine ⟨by omega,?_⟩
         have := x4 ws hk
         have := x4 ws b
         omega
theorem JE {f k:Nat} (hk:f <= k) (hf:pos ws k - pos ws f - 1 <= wide):(gr ws wide k).1 <= (gr ws wide f).1 + 1 := by
 rcases qr hf k hk (Nat.le_refl _) with a | ⟨a,_⟩ <;> omega
theorem YB:∀ {k:Nat},k <= ws.length -> (taken wide (ws.take k)).length = (gr ws wide k).1 /\ (0 < k -> ∃ r,(taken wide (ws.take k)).getLast? = some r /\ (r.length:Int) = pos ws k - pos ws (gr ws wide k).2 - 1)
 | 0,_ => ⟨rfl,fun h => absurd h (Nat.lt_irrefl _)⟩
 | k + 1,hk => by
   have hk':k < ws.length := hk
   obtain ⟨l,g⟩ := YB (k := k) (Nat.le_of_lt hk')
   have ps := pos_succ (List.getElem?_eq_getElem hk')
   rw [<- List.take_append_getElem hk',xf]
   generalize ws[k] = w at ps
   by_cases h0:k = 0
   · subst h0
     have e:gr ws wide 1 = (1,0) := by
       rw [wU (fun z => z.1 rfl)]
       rfl
     rw [e]
     refine ⟨rfl,fun _ => ⟨w,rfl,?_⟩⟩
     rw [jp] at ps
     have ps:pos ws 1 = 0 + (w.length:Int) + 1 := ps
     show (w.length:Int) = pos ws 1 - 0 - 1
     omega
   · obtain ⟨r,er,lr⟩ := g (by omega)
     have sp := wT er
     have n0:(gr ws wide k).1 ≠ 0 := Nat.ne_of_gt (WT (by omega))
     unfold put
     rw [er]
     dsimp only
     by_cases c:(r.length:Int) + 1 + w.length <= wide
     · rw [if_pos c,ww ⟨n0,by omega⟩]
       refine ⟨?_,fun _ => ⟨r ++ 32 :: w,by simp,?_⟩⟩
       · rw [<- l]
         conv => rhs; rw [sp]
         simp
       · rw [List.length_append,List.length_cons]
         omega
     · rw [if_neg c,wU (fun z => c (by omega))]
       refine ⟨by rw [List.length_append,l]; rfl,fun _ => ⟨w,by simp,?_⟩⟩
       dsimp only
       omega
end
end Lin
namespace L2
open PySem PySem.Spec PyProof.Rows PySem.W
theorem xS (a b:List Nat):txt a ++ txt b = txt (a ++ b) := by
 refine Str.ext' ?_
 rw [Str.cps_append]
 simp [txt]
def Its (l:List Nat):It := ⟨fun i _ => i < l.length,fun i H x H' => H' = H /\ ∃ c,l[i]? = some c /\ x = .str (txt [c]),fun i _ => l.length <= i⟩
theorem X0 {P:Program} {w:World} {K:PySem.W.Frag} {tg:Expr} (it:Addr) (l:List Nat) (t:Tok):Turn P w K tg (Its l) [it] it (fun i h => h.IsStrIter it "str_ascii_iterator" (txt l) t i) where
 mem := by simp
 obj := fun i h st b hb => by
   have e:b = it := by simpa using hb
   subst e
   obtain ⟨o,e,c,d⟩ := st
   exact ⟨o,e,fun v z => by rw [d] at z; cases z⟩
 keep := fun i h h' st k => let ⟨o,ho,r⟩ := st; ⟨o,k it (by simp) o ho,r⟩
 item := by
   intro X hP hw hK hc i pins s σ H E I hf st hg
   subst hP hw hK
   obtain ⟨f0,f1,f2,f3,f4,f5⟩ := hf it (by simp)
   have hg:i < l.length := hg
   refine wpAny_pyNext_ascii_item st (c := l[i]) (by simp [txt,hg]) fun h' st' sb => ?_
   have I1:Inv X pins σ H { s with heap := h',toks := s.toks + 1 } := I.turned (t' := s.toks + 1) (fun b o hb e => (sb.2 b hb).trans e) f0 f1 f3 f4 f5
   obtain ⟨o,e,c,d⟩ := id st'
   exact ⟨_,rfl,jE (s := { s with heap := h',toks := s.toks + 1 }) e c d (by decide) ⟨.str (txt [l[i]]),H,I1,⟨_,rfl⟩,⟨rfl,l[i],List.getElem?_eq_getElem hg,rfl⟩,st',fun b hb => (hf b hb).1⟩⟩
 done := by
   intro X hP hw hK hc i pins s σ H E I hf st hg
   subst hP hw hK
   obtain ⟨f0,f1,f2,f3,f4,f5⟩ := hf it (by simp)
   have hg:l.length <= i := hg
   exact wpAny_pyNext_ascii_end (I.ok.hd hc) st (by simp [txt,hg]) fun h' eb => ⟨rfl,I.turned (t' := s.toks) (fun b o hb e => eb b o hb e) f0 f1 f3 f4 f5⟩
 self := fun _ _ _ _ _ st h => wpAny_pyIter_striter_ascii st h
section
variable {X:Cx} {tg:Expr}
def iTxt (tl:TE):TI := fun σ H R => tl σ H fun x H1 => ∃ l:List Nat,x = .str (txt l) /\ (∀ c ∈ l,c < 128) /\ R (Its l) H1
theorem za7 {l:Expr} {tl:TE} (hl:PE X l tl):PI X tg l (iTxt tl) := by
 intro pins s σ H R I h
 refine thn (hl pins s σ H _ I h) fun v s1 ⟨x,H1,I1,r1,q1⟩ => ?_
 obtain ⟨l,e,ha,q⟩ := q1
 subst e
 obtain ⟨t,rfl⟩ := r1
 refine wpAny_pyIter_ascii (by simpa [txt] using ha) ?_
 refine ⟨s1.heap.objs.size,[s1.heap.objs.size],_,_,H1,rfl,I1.kept (t' := s1.toks) fun b o e => Heap.get?_push_of_some _ e,X0 _ l t,⟨_,Heap.get?_push_size _ rfl,rfl,rfl⟩,fun b hb => ?_,q⟩
 have e:b = s1.heap.objs.size := by simpa using hb
 subst e
 exact I1.fpOk (Nat.le_refl _) (I1.hok.fresh (Nat.le_refl _))
theorem ZJ:OpR X (compareOp .LtE) (fun x y H Q => ∃ i j,x = .str i /\ y = .str j /\ Q (.bl (!decide (j.cps.toList < i.cps.toList))) H) := by
 intro pins s σ H x y v u Q I rx ry h
 obtain ⟨i,j,rfl,rfl,q⟩ := h
 obtain ⟨t,rfl⟩ := rx
 obtain ⟨t',rfl⟩ := ry
 exact PySem.P.le_str (zM I q rfl)
theorem ZK:∀ (ls:List (List Nat)),Str.join (txt [32]) (ls.map txt) = txt (Lin.glue ls)
 | [] => rfl
 | [a] => rfl
 | a :: b :: r => by
   have ih := ZK (b :: r)
   show txt a ++ txt [32] ++ Str.join (txt [32]) ((b :: r).map txt) = _
   rw [ih,xS,xS]
   simp [Lin.glue]
end
section
variable {g:TG} {tc:TT} {te:TE} {σ0:St} {H0:Hp} {R:List V -> Hp -> Prop} {l:List Nat}
theorem J9 (Pv:Nat -> List V -> St -> Hp -> Prop) (h0:Pv 0 [] σ0 H0) (hz:∀ i ys σ H,i <= l.length -> Pv i ys σ H -> ys.length <= sizeLine) (hst:∀ ys σ H,Pv l.length ys σ H -> R ys H)
   (hgo:∀ i c ys σ H,l[i]? = some c -> Pv i ys σ H -> g (.str (txt [c])) σ H fun σ2 H3 => tc σ2 H3 fun b H4 => if b = true then te σ2 H4 fun y H5 => Pv (i + 1) (ys ++ [y]) σ2 H5 else Pv (i + 1) ys σ2 H4) :
   ∃ W:Nat -> Nat -> List V -> St -> Hp -> Prop,(∃ m,W 0 m [] σ0 H0) /\ ∀ i m ys σ' H',W i m ys σ' H' ->
     ((Its l).stop i H' /\ ys.length <= sizeLine /\ R ys H') \/
     ((Its l).go i H' /\ ys.length <= sizeLine /\ ∃ N:List V -> St -> Hp -> Prop,(∀ ys' σ2 H2,N ys' σ2 H2 -> ∃ m',m' < m /\ W (i + 1) m' ys' σ2 H2) /\
       ∀ x H2,(Its l).yld i H' x H2 -> g x σ' H2 fun σ2 H3 => tc σ2 H3 fun b H4 => if b = true then te σ2 H4 fun y H5 => N (ys ++ [y]) σ2 H5 else N ys σ2 H4) :=
 xQ (n := l.length) Pv h0 hz (fun ys σ H p => ⟨Nat.le_refl _,hst ys σ H p⟩) fun i ys σ H hi p => ⟨hi,fun x H2 y => by
   obtain ⟨e,c,hc,ex⟩ := y
   subst e ex
   exact hgo i c ys σ _ hc p⟩
end
section
variable {σ:St} {H:Hp} {ta tb:TE}
theorem x5 {w:List Nat} (a:Evl ta σ H (.str (txt w))) (h:w.length <= 1000000):Evl (tCB (fun xs H Q => ∃ z:Str,xs = [.str z] /\ z.length <= sizeLine /\ Q (.int z.length) H) (xi ta tNil)) σ H (.int (w.length:Nat)) := fun Q q =>
 a _ ⟨txt w,rfl,by rw [zL]; exact Nat.le_trans h (by decide),by rw [zL]; exact q⟩
theorem YC {u w:List Nat} (a:Evl ta σ H (.str (txt u))) (b:Evl tb σ H (.str (txt w))) (h:u.length + w.length <= 1000000):Evl (tOp (fun x y H Q => ∃ i j,x = .str i /\ y = .str j /\ i.length + j.length <= sizeLine /\ Q (.str (i ++ j)) H) ta tb) σ H (.str (txt (u ++ w))) := fun Q q =>
 a _ (b _ ⟨txt u,txt w,rfl,rfl,by rw [zL,zL]; exact Nat.le_trans h (by decide),by rw [xS]; exact q⟩)
theorem wV {t u:TT} {p q:Prop} [Decidable p] [Decidable q] (a:Tst t σ H p) (b:p -> Tst u σ H q):Tst (tAnd t u) σ H (p /\ q) := fun Q z => a _ (by
 by_cases h:p
 · rw [decide_eq_true h,if_pos rfl]
   refine b h _ ?_
   have e:decide (p /\ q) = decide q := by rw [decide_eq_decide]; exact ⟨fun z => z.2,fun z => ⟨h,z⟩⟩
   rw [<- e]; exact z
 · rw [decide_eq_false h,if_neg Bool.false_ne_true]
   have e:decide (p /\ q) = false := decide_eq_false fun z => h z.1
   rw [<- e]; exact z)
theorem Zb {c:TT} {tb:TS} {D:Ends} (Pv:Nat -> St -> Hp -> Prop) (m0:Nat) (h0:Pv m0 σ H)
   (hs:∀ m σ H,Pv m σ H -> ∃ (p:Prop) (_:Decidable p),Tst c σ H p /\ (p -> tb { D with nx := fun σ' H' => ∃ m',m' < m /\ Pv m' σ' H',ct := fun σ' H' => ∃ m',m' < m /\ Pv m' σ' H',bk := D.nx } σ H) /\ (¬ p -> D.nx σ H)):Wu c tb D σ H := by
 refine ⟨Pv,⟨m0,h0⟩,fun m σ H p => ?_⟩
 obtain ⟨q,dq,t,h1,h2⟩ := hs m σ H p
 refine t _ ?_
 by_cases z:q
 · rw [decide_eq_true z,if_pos rfl]
   exact ⟨_,fun _ _ y => y,h1 z⟩
 · rw [decide_eq_false z,if_neg Bool.false_ne_true]
   exact h2 z
theorem Xz {t u:TS} {D:Ends} (R:St -> Hp -> Prop) (h3:∀ σ H,R σ H -> u D σ H) (h:(∀ σ H,R σ H -> u D σ H) -> t { D with nx := u D } σ H):tSeq t u D σ H := h h3
theorem zF {i:Nat} {v:V} {Q:St -> Hp -> Prop} (h:Q (σ.set i (some v)) H):z6 i v σ H Q := h
theorem qK {t:TA} {i:Nat} {u:TS} {D:Ends} (h:t σ H fun xs H1 => xs.length <= sizeLine /\ ∀ p,H1 p = none -> u D (σ.set i (some (.ref p))) (upd H1 p (.lst xs))):tSeq (tAsg (tLst t) (z6 i)) u D σ H := h
end
end L2
namespace L2
open PySem PySem.Spec PyProof.Rows PySem.W
section
variable {P:Program} {w:World} {K:PySem.W.Frag} {mg:Str -> Option Value} {base:Heap} {N:List Str} {qual:Str} {scope:Scope} {f:Addr} {cd:Value} {A:Around} {outer:List Env} {s₀:Shared} {H₀:Hp} {E:XK}
theorem y3:qj (CXE P w) (cxOf (CXE P w) P w K mg base N qual scope f cd A outer s₀ H₀ E) E := by
 intro pins σ H s e s' I q
 obtain ⟨ea,T,C,H',rfl,os,bare,un,hok,fly,q⟩ := q
 have I2:Inv (cxOf (CXE P w) P w K mg base N qual scope f cd A outer s₀ H₀ E) pins σ H' s' := I.call' (ch := []) os un hok bare (fun b z => nomatch z)
 obtain ⟨oe,vs,a0,oT,ts,e1,e2,e3,e4,e5,e6,e7,e8⟩ := fly.ob
 have no0:∀ b,s.heap.get? b = none -> s₀.heap.get? b = none := fun b z => by
   cases y:s₀.heap.get? b with
   | none => rfl
   | some o =>
     obtain ⟨o',z'⟩ := I.base.there b o y (fun m => nomatch m)
     rw [z] at z'
     cases z'
 have no2:∀ b,s'.heap.get? b = none -> s₀.heap.get? b = none := fun b z => by
   cases y:s₀.heap.get? b with
   | none => rfl
   | some o =>
     obtain ⟨o',z'⟩ := I2.base.there b o y (fun m => nomatch m)
     rw [z] at z'
     cases z'
 have ff:s'.heap.FunFrames (hideAll s'.heap (ea :: T :: frs (envOfC qual scope s₀.heap.objs.size f cd :: outer))) (envOfC qual scope s₀.heap.objs.size f cd :: outer) := I2.hid _ fun b hb => List.mem_cons_of_mem _ (List.mem_cons_of_mem _ hb)
 have fl:Heap.FlyingW (hideAll s'.heap (ea :: T :: frs (envOfC qual scope s₀.heap.objs.size f cd :: outer))) (envOfC qual scope s₀.heap.objs.size f cd :: outer) ea (.ref C) a0 s'.heap :=
   ⟨fun b o z => of_hideAll _ z,hideAll_none _ List.mem_cons_self,ff,oe,vs,T,oT,ts,e1,⟨e2,e4⟩,e3,e5,hideAll_none _ (List.mem_cons_of_mem _ List.mem_cons_self),fly.ne,e6,e7,e8⟩
 show wpAny _ _ (leaving _ _) _ _ _
 refine wpAny_leaves_onW I2.ok.frames rfl fl fun h2 fl2 up => ?_
 have inB:∀ b o,b ≠ ea -> b ≠ T -> b ∉ frs (envOfC qual scope s₀.heap.objs.size f cd :: outer) -> s'.heap.get? b = some o -> h2.get? b = some o := fun b o n1 n2 nb z => fl2.1 b o (hideAll_get _ z (by
   intro m
   rcases List.mem_cons.mp m with m | m
   · exact n1 m
   · rcases List.mem_cons.mp m with m | m
     · exact n2 m
     · exact nb m))
 have upS:∀ b o,b ∈ frs (envOfC qual scope s₀.heap.objs.size f cd :: outer) -> s'.heap.get? b = some o -> ∃ sl,h2.get? b = some { o with slots := sl } := fun b o nb z => by
   obtain ⟨_,o',z',hd⟩ := I2.stack.mem nb
   rw [z] at z'
   cases z'
   exact up b o z hd
 have notL:∀ b o,s₀.heap.get? b = some o -> b ∉ frs outer -> b ∉ frs (envOfC qual scope s₀.heap.objs.size f cd :: outer) := fun b o z nb m => by
   rcases List.mem_cons.mp (I2.stkSub b m) with z' | z'
   · have := Heap.lt_size z
     have z':b = s₀.heap.objs.size := z'
     rw [z'] at this
     exact Nat.lt_irrefl _ this
   · exact nb z'
 have neE:∀ b o,s₀.heap.get? b = some o -> b ≠ ea /\ b ≠ T := fun b o z => ⟨(fun y => by rw [y,no0 _ fly.ne0] at z; cases z),(fun y => by rw [y,no0 _ fly.nT0] at z; cases z)⟩
 obtain ⟨_,_,_,oe',vs',T',oT',ts',a1,⟨a2,a3⟩,a4,a5,a6,a7,a8,a9,a10⟩ := fl2
 have hT':T' = T \/ s'.heap.get? T' = none := by
   by_cases hTT:T' = T
   · exact .inl hTT
   · right
     cases z:s'.heap.get? T' with
     | none => rfl
     | some o =>
       by_cases hb:T' ∈ frs (envOfC qual scope s₀.heap.objs.size f cd :: outer)
       · obtain ⟨_,o',z',hd⟩ := I2.stack.mem hb
         obtain ⟨sl,z2⟩ := upS T' o hb z
         rw [z] at z'
         cases z'
         rw [a8] at z2
         cases z2
         exact absurd a9 (hd ts')
       · rw [hideAll_get _ z (by
           intro m
           rcases List.mem_cons.mp m with m | m
           · exact a7 m
           · rcases List.mem_cons.mp m with m | m
             · exact hTT m
             · exact hb m)] at a6
         cases a6
 have fT':H' T' = none := by
   rcases hT' with e | e
   · rw [e]; exact fly.fT
   · exact I2.none_of e
 have nT':s₀.heap.get? T' = none := by
   rcases hT' with e | e
   · rw [e]; exact no0 _ fly.nT0
   · exact no2 _ e
 refine ⟨ea,T',C,H',rfl,I2.os,I2.bare,⟨fun b o z n nb _ => ?_,fun b o z n nb _ => ?_,fun b o z n _ => I2.base.free b o z n (fun m => nomatch m),fun b o z _ => ?_,I2.base.tups,I2.base.frzs,I2.base.tbls⟩,fun a o z => ?_,
   ⟨⟨oe',vs',a0,oT',ts',a1,a2,a4,a3,a5,a8,a9,a10⟩,a7,fly.fe,fT',no0 _ fly.ne0,nT'⟩,q⟩
 · exact inB b o (neE b o z).1 (neE b o z).2 (notL b o z nb) (I2.base.keep b o z n nb (fun m => nomatch m))
 · obtain ⟨sl,z1⟩ := I2.base.slot b o z n nb (fun m => nomatch m)
   obtain ⟨sl',z2⟩ := upS b _ (by
     show b ∈ frs _
     unfold frs
     rw [List.filterMap_cons]
     exact List.mem_cons_of_mem _ nb) z1
   exact ⟨sl',z2⟩
 · obtain ⟨o',z'⟩ := I2.base.there b o z (fun m => nomatch m)
   by_cases hb:b ∈ frs (envOfC qual scope s₀.heap.objs.size f cd :: outer)
   · obtain ⟨sl,z2⟩ := upS b o' hb z'
     exact ⟨_,z2⟩
   · exact ⟨o',inB b o' (neE b o z).1 (neE b o z).2 hb z'⟩
 · refine (I2.hok a o z).stay (fun b u hb r => ?_) (fun _ y => y) fun _ _ y => y
   have hbH:∃ x,H' b = some x := by
     rcases hb with rfl | hb
     · exact ⟨_,z⟩
     · exact ⟨_,hb⟩
   obtain ⟨x,hx⟩ := hbH
   refine inB b u (fun m => ?_) (fun m => ?_) (fun m => ?_) r
   · rw [m,fly.fe] at hx; cases hx
   · rw [m,fly.fT] at hx; cases hx
   · have := I2.stkFree b m
     rw [hx] at this
     cases this
end
end L2
namespace L2
open PySem PySem.Spec PyProof.Rows
theorem Inv.turnedL {X:Cx} {pins:List (Addr × Obj)} {σ:St} {H:Hp} {s:Shared} {h':Heap} {t':Nat} {ch:List Addr} (I:Inv X pins σ H s) (k:∀ b o,b ∉ ch -> s.heap.get? b = some o -> h'.get? b = some o) (hf:∀ b ∈ ch,FpOk X pins H b) :
   Inv X pins σ H { s with heap := h',toks := t' } := by
 have nit:∀ b u,H b = some u -> b ∉ ch := fun b u e m => by rw [(hf b m).1] at e; cases e
 refine I.step (g' := s.gens) (d' := s.drawn) (ch := ch) (fun b hb => ?_) (fun b o _ _ m e _ => k b o m e) (fun b o _ _ m e _ => ⟨o.slots,k b o m e⟩) (fun _ _ _ _ n => n) (fun b o m e => ⟨o,k b o m e⟩) (fun _ _ e => e) (fun _ _ _ e => e)
   (fun b ps e => ⟨#[],by rw [e]; simp⟩) (fun m hm => ?_) (fun b u e => ?_) I.bare
 · obtain ⟨a0,a1,a2,a3,a4,a5⟩ := hf b hb
   exact ⟨a3,a1,a4,a5⟩
 · obtain ⟨o,es,ep,ho,r⟩ := hm
   exact ⟨o,es,ep,k _ o (fun m => (hf _ m).2.1 rfl) ho,r⟩
 · refine (I.hok b u e).stay (fun c v hc q => k c v (fun m => ?_) q) (fun _ q => q) fun _ _ q => q
   rcases hc with z | z
   · rw [z] at m
     exact nit b u e m
   · exact nit c _ z m
theorem yT {h:Heap} {a c:Addr} {its:Array Value} {o:Obj} (hl:h.IsList a its) (hc:h.get? c = some o) (hn:o.cls ≠ .type "list"):a ≠ c := fun z => by
 obtain ⟨o',g1,g2,_⟩ := hl
 rw [z,hc] at g1
 cases g1
 exact hn g2
def ItZ (K:PySem.W.Frag) (a b:Addr):It :=
 ⟨fun i H => ∃ xs ys x y,SqL K H a xs /\ SqL K H b ys /\ xs[i]? = some x /\ ys[i]? = some y,
  fun i H x H' => ∃ p u v,H p = none /\ x = .ref p /\ H' = upd H p (.tup [u,v]) /\ (∀ xs,SqL K H a xs -> xs[i]? = some u) /\ ∀ ys,SqL K H b ys -> ys[i]? = some v,
  fun i H => ∃ xs ys,SqL K H a xs /\ SqL K H b ys /\ (xs.length <= i \/ ys.length <= i)⟩
structure Dst (z TI TO i1 i2:Addr):Prop where
 TIz:TI ≠ z
 TOz:TO ≠ z
 i1z:i1 ≠ z
 i2z:i2 ≠ z
 TITO:TI ≠ TO
 TIi1:TI ≠ i1
 TIi2:TI ≠ i2
 TOi1:TO ≠ i1
 TOi2:TO ≠ i2
 i12:i1 ≠ i2
theorem WU (n:Nat):Dst (n + 4) (n + 2) (n + 3) n (n + 1) := by
 have ne:∀ {i j:Nat},i ≠ j -> (show Nat from n + i) ≠ (show Nat from n + j) := fun h z => h (Nat.add_left_cancel z)
 exact ⟨ne (i := 2) (j := 4) (by decide),ne (i := 3) (j := 4) (by decide),ne (i := 0) (j := 4) (by decide),ne (i := 1) (j := 4) (by decide),ne (i := 2) (j := 3) (by decide),ne (i := 2) (j := 0) (by decide),ne (i := 2) (j := 1) (by decide),ne (i := 3) (j := 0) (by decide),ne (i := 3) (j := 1) (by decide),ne (i := 0) (j := 1) (by decide)⟩
theorem ZL {n c:Nat} (h:c = n + 4 \/ c = n + 2 \/ c = n + 3 \/ c = n \/ c = n + 1):n <= c := by omega
theorem ZM {h:Heap} {z TI TO i1 i2 a b:Addr} {xs ys:Array Value} {k1 k2:Nat} {f0 v u:Value} (D:Dst z TI TO i1 i2) (hz:IsZip h z TI TO f0) (hTO:IsPair h TO v u) (h1:h.IsListIter i1 a k1) (h2:h.IsListIter i2 b k2) (l1:h.IsList a xs) (l2:h.IsList b ys) :
   ZipApart z TI TO i1 i2 a b := by
 obtain ⟨o1,e1,c1,_⟩ := h1
 obtain ⟨o2,e2,c2,_⟩ := h2
 have n1:o1.cls ≠ .type "list" := by rw [c1]; decide
 have n2:o2.cls ≠ .type "list" := by rw [c2]; decide
 have nz:Value.type "zip" ≠ .type "list" := by decide
 have nt:Value.type "tuple" ≠ .type "list" := by decide
 exact ⟨D.TIz,D.TOz,D.i1z,D.i2z,D.TITO,D.TIi1,D.TIi2,D.TOi1,D.TOi2,D.i12,yT l1 hz nz,yT l1 hTO nt,yT l1 e1 n1,yT l1 e2 n2,yT l2 hz nz,yT l2 hTO nt,yT l2 e1 n1,yT l2 e2 n2⟩
theorem Q1 {P:Program} {w:World} {K:PySem.W.Frag} {elts:List Expr} {kx:Nat} {px:Pos} (a b z TI TO i1 i2:Addr) (D:Dst z TI TO i1 i2) :
   Turn P w K (.Tuple elts kx px) (ItZ K a b) [z,TI,TO,i1,i2] z (fun i h => IsZip h z TI TO .none /\ IsPair h TI (.ref i1) (.ref i2) /\ (∃ v u,IsPair h TO v u) /\ h.IsListIter i1 a i /\ h.IsListIter i2 b i) where
 mem := by simp
 obj := fun i h st c hc => by
   obtain ⟨hz,hTI,⟨v,u,hTO⟩,⟨o1,e1,c1,d1⟩,⟨o2,e2,c2,d2⟩⟩ := st
   have hc:c = z \/ c = TI \/ c = TO \/ c = i1 \/ c = i2 := by simpa using hc
   rcases hc with rfl | rfl | rfl | rfl | rfl
   · exact ⟨_,hz,fun v y => by have y':Data.fields _ = Data.cell v := y; cases y'⟩
   · exact ⟨_,hTI,fun v y => by have y':Data.seq _ = Data.cell v := y; cases y'⟩
   · exact ⟨_,hTO,fun v y => by have y':Data.seq _ = Data.cell v := y; cases y'⟩
   · exact ⟨o1,e1,fun v y => by rw [d1] at y; cases y⟩
   · exact ⟨o2,e2,fun v y => by rw [d2] at y; cases y⟩
 keep := fun i h h' st k => by
   obtain ⟨hz,hTI,⟨v,u,hTO⟩,h1,h2⟩ := st
   exact ⟨k z (by simp) _ hz,k TI (by simp) _ hTI,⟨v,u,k TO (by simp) _ hTO⟩,h1.at fun o q => k i1 (by simp) o q,h2.at fun o q => k i2 (by simp) o q⟩
 item := by
   intro X hP hw hK hc i pins s σ H E I hf st hg
   subst hP hw hK
   obtain ⟨hz,hTI,⟨v0,u0,hTO⟩,h1,h2⟩ := st
   obtain ⟨xs,ys,x,y,hq1,hq2,hx,hy⟩ := hg
   obtain ⟨its,rv,tp,hz1⟩ := I.list hq1
   obtain ⟨jts,rw',tq,hz2⟩ := I.list hq2
   obtain ⟨u,hu,ru⟩ := rv.get hx
   obtain ⟨v,hv,rv'⟩ := rw'.get hy
   have Z := ZM D hz hTO h1 h2 tp.isList tq.isList
   refine wpAny_pyNext_zip_item Z hz hTI hTO h1 h2 tp.isList tq.isList (x := u) (y := v) (by simpa using hu) (by simpa using hv) fun h' a1 a2 a3 a4 a5 a6 hk => ?_
   refine ⟨_,rfl,wpAny_letOwnedTupleGo_zip a1 fun h'' hz'' hs => ?_⟩
   have lt:∀ {c o},s.heap.get? c = some o -> s.heap.objs.size ≠ c := fun e => Nat.ne_of_gt (Heap.lt_size e)
   have ne1 := lt hz
   have k2:∀ c o,c ∉ [z,TO,i1,i2] -> s.heap.get? c = some o -> h''.get? c = some o := fun c o m q => by
     have m:c ≠ z /\ c ≠ TO /\ c ≠ i1 /\ c ≠ i2 := by simpa using m
     exact (hs.2 c m.1).trans (hk c o m.1 m.2.1 m.2.2.1 m.2.2.2 q)
   have I1:Inv X pins σ H { s with heap := h'',toks := s.toks } := I.turnedL (t' := s.toks) k2 fun c m => hf c (by
     have m:c = z \/ c = TO \/ c = i1 \/ c = i2 := by simpa using m
     rcases m with rfl | rfl | rfl | rfl <;> simp)
   have hn:H s.heap.objs.size = none := I.hok.fresh (Nat.le_refl _)
   have FP := I.fpOk (b := s.heap.objs.size) (Nat.le_refl _) hn
   have hT2:h''.get? s.heap.objs.size = some { cls := .type "tuple",data := .seq #[u,v] } := (hs.2 _ ne1).trans a5
   have I2 := I1.track (p := s.heap.objs.size) (o := .tup [x,y]) hn (Heap.get?_none_of_le I.sz) FP.2.1 FP.2.2.2.2.1 FP.2.2.2.2.2
     ⟨by show 2 <= sizeLine; decide,[u,v],.cons ru (.cons rv' .nil),⟨_,hT2,rfl,_,rfl⟩⟩
   refine ⟨.ref s.heap.objs.size,_,I2,rfl,⟨_,x,y,hn,rfl,rfl,fun zs hy' => ?_,fun zs hy' => ?_⟩,⟨hz'',(hs.2 _ D.TIz).trans (hk _ _ D.TIz D.TITO D.TIi1 D.TIi2 hTI),⟨_,_,(hs.2 _ D.TOz).trans a2⟩,a3.at fun o q => (hs.2 _ D.i1z).trans q,a4.at fun o q => (hs.2 _ D.i2z).trans q⟩,fun c hc => ?_⟩
   · rw [I.list_inj hy' hq1]; exact hx
   · rw [I.list_inj hy' hq2]; exact hy
   · have hb2:c ≠ s.heap.objs.size := by
       have m:c = z \/ c = TI \/ c = TO \/ c = i1 \/ c = i2 := by simpa using hc
       rcases m with rfl | rfl | rfl | rfl | rfl
       · exact ne1.symm
       · exact (lt hTI).symm
       · exact (lt hTO).symm
       · obtain ⟨o,g,_⟩ := h1
         exact (lt g).symm
       · obtain ⟨o,g,_⟩ := h2
         exact (lt g).symm
     rw [zp hb2]
     exact (hf c hc).1
 done := by
   intro X hP hw hK hc i pins s σ H E I hf st hg
   subst hP hw hK
   obtain ⟨hz,hTI,⟨v0,u0,hTO⟩,h1,h2⟩ := st
   obtain ⟨xs,ys,hq1,hq2,hx⟩ := hg
   obtain ⟨its,rv,tp,hz1⟩ := I.list hq1
   obtain ⟨jts,rw',tq,hz2⟩ := I.list hq2
   have l1 := rv.length
   have l2 := rw'.length
   have Z := ZM D hz hTO h1 h2 tp.isList tq.isList
   refine wpAny_pyNext_zip_end (I.ok.hd hc) Z hz hTI hTO h1 h2 tp.isList tq.isList ?_ fun h' hk => ⟨rfl,I.turnedL (t' := s.toks) (ch := [z,TO,i1,i2]) (fun c o m q => ?_) fun c m => hf c ?_⟩
   · rcases hx with hx | hx
     · left; simp; omega
     · right; simp; omega
   · have m:c ≠ z /\ c ≠ TO /\ c ≠ i1 /\ c ≠ i2 := by simpa using m
     exact hk c o m.1 m.2.1 m.2.2.1 m.2.2.2 q
   · have m:c = z \/ c = TO \/ c = i1 \/ c = i2 := by simpa using m
     rcases m with rfl | rfl | rfl | rfl <;> simp
 self := fun _ _ _ _ _ st h => wpAny_pyIter_zip st.1 h
def iZip (K:PySem.W.Frag) (ta:TA):TI := fun σ H R => ta σ H fun vs H1 => ∃ a b,vs = [.ref a,.ref b] /\ (∃ xs,SqL K H1 a xs) /\ (∃ ys,SqL K H1 b ys) /\ R (ItZ K a b) H1
theorem jQ {X:Cx} {l r:Expr} {ta:TA} {elts:List Expr} {kx:Nat} {px p pos:Pos} (hg:Gl X "zip") (hm:X.mg "zip" = none) (ha:PA X [l,r] ta) (hs:starEach [l,r] X.env = [(false,eval l X.env),(false,eval r X.env)] := by rfl) (hs2:starEach [r] X.env = [(false,eval r X.env)] := by rfl) :
   PI X (.Tuple elts kx px) (.Call (.Name "zip" p) [l,r] [] pos) (iZip X.K ta) := by
 intro pins s σ H R I h
 refine Call_ (yQ I hg hm boot_zip (PyProof.Rows.callWith_type1 (thn (ha pos pins s σ H _ I h) fun us s1 ⟨vs,H1,I1,r1,q1⟩ => ?_) (by rw [hs,hs2]) (by rw [hs2]; rfl)))
 obtain ⟨a,b,e,⟨xs,hq1⟩,⟨ys,hq2⟩,q⟩ := q1
 subst e
 cases r1 with
 | cons r rr =>
   cases rr with
   | cons r' rr =>
     cases rr
     cases r
     cases r'
     obtain ⟨its,rv,tp,hz1⟩ := I1.list hq1
     obtain ⟨jts,rw',tq,hz2⟩ := I1.list hq2
     refine call_zip_2 tp.isList tq.isList fun h' a1 a2 a3 a4 a5 a6 hk => ?_
     refine wpAny_pyIter_zip a1 ?_
     refine ⟨s1.heap.objs.size + 4,[s1.heap.objs.size + 4,s1.heap.objs.size + 2,s1.heap.objs.size + 3,s1.heap.objs.size,s1.heap.objs.size + 1],_,_,H1,rfl,I1.kept (t' := s1.toks) hk,
       Q1 a b _ _ _ _ _ (WU _),⟨a1,a2,⟨_,_,a3⟩,a4,a5⟩,fun c hc => ?_,q⟩
     have m:c = s1.heap.objs.size + 4 \/ c = s1.heap.objs.size + 2 \/ c = s1.heap.objs.size + 3 \/ c = s1.heap.objs.size \/ c = s1.heap.objs.size + 1 := by simpa using hc
     have le:s1.heap.objs.size <= c := ZL m
     exact I1.fpOk le (I1.hok.fresh le)
section
variable {g:TG} {tc:TT} {te:TE} {σ0:St} {H0:Hp} {R:List V -> Hp -> Prop} {K:PySem.W.Frag} {a b:Addr} {xs ys:List V}
theorem Zc (Pv:Nat -> List V -> St -> Hp -> Prop) (h0:Pv 0 [] σ0 H0) (hz:∀ i us σ H,i <= min xs.length ys.length -> Pv i us σ H -> us.length <= sizeLine /\ SqL K H a xs /\ SqL K H b ys) (hst:∀ us σ H,Pv (min xs.length ys.length) us σ H -> R us H)
   (hgo:∀ i x y us σ H p,xs[i]? = some x -> ys[i]? = some y -> Pv i us σ H -> H p = none -> g (.ref p) σ (upd H p (.tup [x,y])) fun σ2 H3 => tc σ2 H3 fun c H4 => if c = true then te σ2 H4 fun u H5 => Pv (i + 1) (us ++ [u]) σ2 H5 else Pv (i + 1) us σ2 H4) :
   ∃ W:Nat -> Nat -> List V -> St -> Hp -> Prop,(∃ m,W 0 m [] σ0 H0) /\ ∀ i m us σ' H',W i m us σ' H' ->
     ((ItZ K a b).stop i H' /\ us.length <= sizeLine /\ R us H') \/
     ((ItZ K a b).go i H' /\ us.length <= sizeLine /\ ∃ N:List V -> St -> Hp -> Prop,(∀ us' σ2 H2,N us' σ2 H2 -> ∃ m',m' < m /\ W (i + 1) m' us' σ2 H2) /\
       ∀ x H2,(ItZ K a b).yld i H' x H2 -> g x σ' H2 fun σ2 H3 => tc σ2 H3 fun c H4 => if c = true then te σ2 H4 fun u H5 => N (us ++ [u]) σ2 H5 else N us σ2 H4) :=
 xQ (n := min xs.length ys.length) Pv h0 (fun i us σ H hi p => (hz i us σ H hi p).1)
   (fun us σ H p => ⟨⟨xs,ys,(hz _ us σ H (Nat.le_refl _) p).2.1,(hz _ us σ H (Nat.le_refl _) p).2.2,by omega⟩,hst us σ H p⟩)
   fun i us σ H hi p => ⟨⟨xs,ys,xs[i]'(by omega),ys[i]'(by omega),(hz i us σ H (Nat.le_of_lt hi) p).2.1,(hz i us σ H (Nat.le_of_lt hi) p).2.2,List.getElem?_eq_getElem _,List.getElem?_eq_getElem _⟩,fun x H2 y => by
     obtain ⟨q,u,v,hn,e,e2,y1,y2⟩ := y
     subst e e2
     have z := hz i us σ H (Nat.le_of_lt hi) p
     exact hgo i u v us σ H q (y1 xs z.2.1) (y2 ys z.2.2) p hn⟩
end
end L2
namespace Lin
theorem XA:∀ {a b:W} {x y:W},32 ∉ a -> 32 ∉ b -> a ++ 32 :: x = b ++ 32 :: y -> a = b /\ x = y
 | [],[],x,y,_,_,h => by cases h; exact ⟨rfl,rfl⟩
 | [],c :: b,x,y,_,hb,h => by
   cases h
   exact absurd List.mem_cons_self hb
 | c :: a,[],x,y,ha,_,h => by
   cases h
   exact absurd List.mem_cons_self ha
 | c :: a,d :: b,x,y,ha,hb,h => by
   have h:c :: (a ++ 32 :: x) = d :: (b ++ 32 :: y) := h
   injection h with h1 h2
   obtain ⟨e1,e2⟩ := XA (fun z => ha (List.mem_cons_of_mem _ z)) (fun z => hb (List.mem_cons_of_mem _ z)) h2
   exact ⟨by rw [h1,e1],e2⟩
theorem YD:∀ (A B:List W),A ≠ [] -> B ≠ [] -> (∀ a ∈ A,32 ∉ a) -> (∀ b ∈ B,32 ∉ b) -> glue A = glue B -> A = B
 | [],_,h,_,_,_,_ => absurd rfl h
 | _,[],_,h,_,_,_ => absurd rfl h
 | [a],[b],_,_,_,_,h => by
   have h:a = b := h
   rw [h]
 | [a],b :: c :: r,_,_,ha,_,h => by
   have h:a = b ++ 32 :: glue (c :: r) := h
   exact absurd (by rw [h]; simp) (ha a List.mem_cons_self)
 | a :: c :: r,[b],_,_,_,hb,h => by
   have h:a ++ 32 :: glue (c :: r) = b := h
   exact absurd (by rw [<- h]; simp) (hb b List.mem_cons_self)
 | a :: c :: r,b :: d :: t,_,_,ha,hb,h => by
   have h:a ++ 32 :: glue (c :: r) = b ++ 32 :: glue (d :: t) := h
   obtain ⟨e1,e2⟩ := XA (ha a List.mem_cons_self) (hb b List.mem_cons_self) h
   rw [e1,YD (c :: r) (d :: t) (by simp) (by simp) (fun z hz => ha z (List.mem_cons_of_mem _ hz)) (fun z hz => hb z (List.mem_cons_of_mem _ hz)) e2]
end Lin
namespace L2
open PySem PySem.Spec PyProof.Rows PySem.Builtin PySem.Builtin.Str Lin
theorem X1 (p:Str):txt p.cps.toList = p := by
 refine Str.ext' ?_
 simp [txt]
theorem X2 {ws:List W} (hn:ws ≠ []) (hw:∀ w ∈ ws,w ≠ [] /\ 32 ∉ w):Txt.split (txt (glue ws)) (txt [32]) = ws.map txt := by
 have j := StrLaws.join_split (txt (glue ws)) (txt [32])
 have fr := StrLaws.split_free (txt (glue ws)) 32
 have fr:∀ p ∈ Txt.split (txt (glue ws)) (txt [32]),32 ∉ p.cps.toList := fr
 generalize Txt.split (txt (glue ws)) (txt [32]) = ps at j fr
 have e:(ps.map fun p => p.cps.toList).map txt = ps := by
   rw [List.map_map]
   conv => rhs; rw [<- List.map_id ps]
   exact List.map_congr_left fun p _ => X1 p
 rw [<- e,ZK] at j
 have j := J6 j
 have ne:(ps.map fun p => p.cps.toList) ≠ [] := fun z => by
   rw [z] at j
   match ws,hn,hw,j with
   | [a],_,hw,j => exact (hw a List.mem_cons_self).1 j.symm
   | a :: b :: r,_,hw,j =>
     have j:[] = a ++ 32 :: glue (b :: r) := j
     exact absurd j.symm (by simp)
 have q := YD _ _ ne hn (fun a ha => by
   obtain ⟨p,hp,rfl⟩ := List.mem_map.mp ha
   exact fr p hp) (fun b hb => (hw b hb).2) j
 rw [<- q,e]
theorem ZN:∀ {l:List (Str × Tok)} {ws:List W},l.map (·.1) = ws.map txt -> Vals (ws.map fun w => V.str (txt w)) (strValues l)
 | [],[],_ => .nil
 | [],_ :: _,h => nomatch h
 | _ :: _,[],h => nomatch h
 | (x,t) :: l,w :: ws,h => by
   injection h with h1 h2
   have h1:x = txt w := h1
   subst h1
   exact .cons ⟨t,rfl⟩ (ZN h2)
section
variable {X:Cx}
theorem WV:MtR X "str.split" (fun x vs H Q => ∃ ws:List W,x = .str (txt (glue ws)) /\ vs = [.str " "] /\ ws ≠ [] /\ (∀ w ∈ ws,w ≠ [] /\ 32 ∉ w) /\ (glue ws).length <= 1000000 /\ ws.length <= 1000000 /\ ∀ l,H l = none -> Q (.ref l) (upd H l (.lst (ws.map fun w => V.str (txt w))))) := by
 intro pins s σ H x xs v us Q I rx rxs h
 obtain ⟨ws,rfl,rfl,hn,hw,hl,hl2,q⟩ := h
 obtain ⟨t,rfl⟩ := rx
 obtain ⟨z,rfl,u,rfl⟩ := vals1 rxs
 have eb:(" " : Str) = txt [32] := by decide +kernel
 rw [eb]
 have hs := X2 hn hw
 have hx:(txt (glue ws)).length <= 1000000 := by rw [zL]; exact hl
 have big:(1000002:Nat) <= sizeLine := by decide
 generalize txt (glue ws) = x at hs hx
 have hy:((txt [32]).length == 0) = false := by decide +kernel
 have fin:∀ (l:List (Str × Tok)) (k:Nat),l.map (·.1) = Txt.split x (txt [32]) -> EP X pins σ Q (.ref s.heap.objs.size) { s with heap := s.heap.push { cls := .type "list",data := .seq (strValues l).toArray },toks := k } := fun l k e =>
   ⟨.ref s.heap.objs.size,_,I.laid (t' := k) (fun b u e => Heap.get?_push_of_some _ e) (Nat.le_refl _) (show yj X.prog X.w _ _ _ (.lst (ws.map fun w => V.str (txt w))) from ⟨by rw [List.length_map]; omega,strValues l,_,ZN (e.trans hs),Heap.get?_push_size _ rfl⟩),rfl,q _ (I.hok.fresh (Nat.le_refl _))⟩
 have hnn:(partsBetween x (occurrences x (txt [32]) 0 x.length (x.length + 1)) (txt [32]).length).length <= sizeLine := by
   have e1 := StrLaws.occ_length_le x (txt [32]) 0 x.length (x.length + 1)
   rw [length_partsBetween]
   omega
 cases h1:(decide (x.length < (txt [32]).length) || decide (strKind x < strKind (txt [32])))
 · cases hf:(occurrences x (txt [32]) 0 x.length (x.length + 1)).isEmpty
   · refine call_meets F.slot_str_split (typeIs_str _ _ _) F.entry_str_split (F.args_str_split_2 _ _) (meets_str_split_sep x (txt [32]) t u h1 hy hf (by omega) hnn) ?_
     show wants _ _ _ { s with toks := _,heap := s.heap.push { cls := .type "list",data := .seq (strsFrom s.toks (partsBetween x (occurrences x (txt [32]) 0 x.length (x.length + 1)) (txt [32]).length)).toArray } }
     rw [strsFrom_eq]
     exact fin (numbered s.toks _) _ ((numbered_texts _ _).trans ((if_neg (ne_true_of_eq_false h1)).trans (if_neg (ne_true_of_eq_false hf))).symm)
   · exact call_meets F.slot_str_split (typeIs_str _ _ _) F.entry_str_split (F.args_str_split_2 _ _) (meets_str_split_not_found x (txt [32]) t u h1 hy hf)
       (fin [(x,t)] s.toks ((if_neg (ne_true_of_eq_false h1)).trans (if_pos hf)).symm)
 · exact call_meets F.slot_str_split (typeIs_str _ _ _) F.entry_str_split (F.args_str_split_2 _ _) (meets_str_split_cannot_occur x (txt [32]) t u h1)
     (fin [(x,t)] s.toks (if_pos h1).symm)
end
end L2
namespace L2
open PySem PySem.Spec PyProof.Rows
section
variable {X:Cx}
theorem WW (hc:X.calm = true):yx X (.builtin "sum") (fun xs H Q => ∃ (a:Addr) (ns:List Int),xs = [.ref a] /\ SqL X.K H a (ns.map V.int) /\ Q (.int ns.sum) H) := by
 intro pins s σ H xs us Q I r h
 obtain ⟨a,ns,rfl,hq,q⟩ := h
 obtain ⟨u,rfl,ru⟩ := vals1 r
 cases ru
 obtain ⟨its,rv,tp,hz⟩ := I.list hq
 have hl := rv.length
 rw [List.length_map] at hl
 refine call_sum_walkG (WP I tp.isList hc fun s2 e W st hfp => ?_)
 subst e
 refine ⟨_,_,_,_,_,_,fun i => ns.getD i 0,rfl,W,st,hfp,xA rv,fun h' tk t' hk => ?_⟩
 refine ⟨.int ns.sum,H,I.kept (t' := tk) fun b o e => hk b o (fun m => ?_) (Heap.get?_push_of_some _ e),⟨t',?_⟩,q⟩
 · have := Heap.lt_size e
   rw [List.mem_singleton.mp m] at this
   exact Nat.lt_irrefl _ this
 · rw [List.size_toArray,<- hl,jf ns _ (Nat.le_refl _),List.take_length]
end
end L2
namespace Lin
def putG (wide:Int) (gs:List (List W)) (v:W):List (List W) :=
 match gs.getLast? with
 | some g => if ((glue g).length:Int) + 1 + v.length <= wide then gs.dropLast ++ [g ++ [v]] else gs ++ [[v]]
 | none => [[v]]
def grp (wide:Int) (ws:List W):List (List W) := ws.foldl (putG wide) []
theorem xB (wide:Int) (ws:List W) (v:W):grp wide (ws ++ [v]) = putG wide (grp wide ws) v := by
 unfold grp
 rw [List.foldl_append]
 rfl
theorem y4 (wide:Int) (R:List (List W)) (g:List W) (v:W):putG wide (R ++ [g]) v = if ((glue g).length:Int) + 1 + v.length <= wide then R ++ [g ++ [v]] else R ++ [g] ++ [[v]] := by
 unfold putG
 rw [List.getLast?_concat,List.dropLast_concat]
theorem xh {α:Type} (l:List α):l = [] \/ ∃ r a,l = r ++ [a] := by
 by_cases h:l = []
 · exact .inl h
 · exact .inr ⟨_,_,(List.dropLast_concat_getLast h).symm⟩
theorem jR (wide:Int) (ws:List W):(∀ g ∈ grp wide ws,g ≠ []) /\ (ws ≠ [] -> grp wide ws ≠ []) :=
 snoc_ind (P := fun ws => (∀ g ∈ grp wide ws,g ≠ []) /\ (ws ≠ [] -> grp wide ws ≠ [])) ⟨fun g hg => (List.not_mem_nil hg).elim,fun h => absurd rfl h⟩ (fun ws v ih => by
   rw [xB]
   rcases xh (grp wide ws) with e | ⟨R,g,e⟩
   · rw [e]
     exact ⟨fun g hg => by rw [List.mem_singleton.mp hg]; simp,fun _ => by simp [putG]⟩
   · rw [e] at ih ⊢
     rw [y4]
     split
     · refine ⟨fun h hh => ?_,fun _ => by simp⟩
       rcases List.mem_append.mp hh with m | m
       · exact ih.1 h (List.mem_append_left _ m)
       · rw [List.mem_singleton.mp m]; simp
     · refine ⟨fun h hh => ?_,fun _ => by simp⟩
       rcases List.mem_append.mp hh with m | m
       · exact ih.1 h m
       · rw [List.mem_singleton.mp m]; simp) _ ws rfl
theorem YE (wide:Int) (ws:List W):(grp wide ws).map glue = taken wide ws :=
 snoc_ind (P := fun ws => (grp wide ws).map glue = taken wide ws) rfl (fun ws v ih => by
   rw [xB,xf,<- ih]
   rcases xh (grp wide ws) with e | ⟨R,g,e⟩
   · rw [e]
     rfl
   · have gn := (jR wide ws).1 g (by rw [e]; simp)
     rw [e,y4,List.map_append]
     unfold put
     rw [show (List.map glue [g]) = [glue g] from rfl,List.getLast?_concat,List.dropLast_concat]
     dsimp only
     split
     · rw [List.map_append]
       show R.map glue ++ [glue (g ++ [v])] = _
       rw [ZI _ _ gn]
     · rw [List.map_append,List.map_append]
       rfl) _ ws rfl
theorem Q2 (wide:Int) (ws:List W):(grp wide ws).flatten = ws :=
 snoc_ind (P := fun ws => (grp wide ws).flatten = ws) rfl (fun ws v ih => by
   rw [xB]
   conv => rhs; rw [<- ih]
   rcases xh (grp wide ws) with e | ⟨R,g,e⟩
   · rw [e]
     simp [putG]
   · rw [e,y4]
     split <;> simp) _ ws rfl
theorem wx (wide:Int) (ws:List W):(grp wide ws).length = (taken wide ws).length := by rw [<- YE,List.length_map]
def val (g h:List W):Int := ((glue g).length:Int) + 1 + (h.headD []).length
def vals:List (List W) -> List Int
 | [] => []
 | [_] => []
 | g :: h :: r => val g h :: vals (h :: r)
theorem qt:∀ (R:List (List W)) (g h:List W),vals (R ++ [g] ++ [h]) = vals (R ++ [g]) ++ [val g h]
 | [],g,h => rfl
 | [a],g,h => rfl
 | a :: b :: r,g,h => by
   have ih := qt (b :: r) g h
   show val a b :: vals (b :: r ++ [g] ++ [h]) = val a b :: vals (b :: r ++ [g]) ++ [val g h]
   rw [ih]
   rfl
theorem qu:∀ (R:List (List W)) (g g':List W),g.headD [] = g'.headD [] -> vals (R ++ [g]) = vals (R ++ [g'])
 | [],g,g',_ => rfl
 | [a],g,g',e => by
   show [val a g] = [val a g']
   unfold val
   rw [e]
 | a :: b :: r,g,g',e => by
   show val a b :: vals (b :: r ++ [g]) = val a b :: vals (b :: r ++ [g'])
   rw [qu (b :: r) g g' e]
theorem ZO {g:List W} (h:g ≠ []) (v:W):(g ++ [v]).headD [] = g.headD [] := by
 cases g with
 | nil => exact absurd rfl h
 | cons a r => rfl
theorem WX (wide:Int) (ws:List W):∀ z ∈ vals (grp wide ws),wide < z :=
 snoc_ind (P := fun ws => ∀ z ∈ vals (grp wide ws),wide < z) (fun z hz => (List.not_mem_nil hz).elim) (fun ws v ih => by
   rw [xB]
   rcases xh (grp wide ws) with e | ⟨R,g,e⟩
   · rw [e]
     exact fun z hz => (List.not_mem_nil hz).elim
   · have gn := (jR wide ws).1 g (by rw [e]; simp)
     rw [e] at ih ⊢
     rw [y4]
     split
     · rw [qu R _ g (ZO gn v)]
       exact ih
     · rw [qt]
       intro z hz
       rcases List.mem_append.mp hz with m | m
       · exact ih z m
       · rw [List.mem_singleton.mp m]
         unfold val
         show wide < ((glue g).length:Int) + 1 + (v.length:Int)
         omega) _ ws rfl
theorem YF {wide v:Int} (hv:wide <= v) (ws:List W):(∀ z ∈ vals (grp wide ws),v < z) -> grp v ws = grp wide ws :=
 snoc_ind (P := fun ws => (∀ z ∈ vals (grp wide ws),v < z) -> grp v ws = grp wide ws) (fun _ => rfl) (fun ws x ih => by
   rw [xB,xB]
   rcases xh (grp wide ws) with e | ⟨R,g,e⟩
   · intro _
     rw [ih (by rw [e]; exact fun z hz => (List.not_mem_nil hz).elim),e]
     rfl
   · have gn := (jR wide ws).1 g (by rw [e]; simp)
     rw [e] at ih ⊢
     rw [y4]
     split
     · rw [qu R _ g (ZO gn x)]
       intro h
       rw [ih h,y4,if_pos (by omega)]
     · rw [qt]
       intro h
       rw [ih (fun z hz => h z (List.mem_append_left _ hz)),y4,if_neg]
       have := h (val g [x]) (by simp)
       unfold val at this
       have:v < ((glue g).length:Int) + 1 + (x.length:Int) := this
       omega) _ ws rfl
theorem wW:∀ gs:List (List W),(vals gs).length = gs.length - 1
 | [] => rfl
 | [_] => rfl
 | g :: h :: r => by
   show (vals (h :: r)).length + 1 = _
   rw [wW (h :: r)]
   simp
def cnt (ws:List W) (v:Int):Nat := (gr ws v ws.length).1
theorem yO (ws:List W) (v:Int):(taken v ws).length = cnt ws v := by
 have := (YB (ws := ws) (wide := v) (Nat.le_refl _)).1
 rwa [List.take_length] at this
theorem zaa {ws:List W} {v v':Int} (h:v <= v') (hw:∀ w ∈ ws,(w.length:Int) <= v):∀ k,k <= ws.length -> (gr ws v' k).1 <= (gr ws v k).1 := fun k => Nat.strongRecOn k fun k ih hk => by
 by_cases h0:k = 0
 · subst h0
   exact Nat.le_refl _
 · obtain ⟨s1,s2⟩ := YA (ws := ws) (wide := v) (k := k) (by omega)
   have ft := za6 hw (k := k) (by omega) hk
   have up := JE (ws := ws) (wide := v') (f := (gr ws v k).2) (k := k) (by omega) (by omega)
   have := ih _ s1 (by omega)
   omega
theorem x6 {ws:List W} {v v':Int} (h:v <= v') (hw:∀ w ∈ ws,(w.length:Int) <= v):cnt ws v' <= cnt ws v := zaa h hw _ (Nat.le_refl _)
theorem qL {ws:List W} (h:ws ≠ []) (v:Int):0 < cnt ws v := WT (List.length_pos_iff.mpr h)
theorem YG (ws:List W) (v:Int):cnt ws v <= ws.length := JD _
def total (ws:List W):Int := pos ws ws.length - 1
theorem ZP {ws:List W} (v:Int) (h:total ws <= v):cnt ws v <= 1 := by
 have := JE (ws := ws) (wide := v) (f := 0) (k := ws.length) (Nat.zero_le _) (by rw [jp]; unfold total at h; omega)
 exact this
def falls (c:Int -> Nat) (lo:Int):Nat -> List (Int × Nat)
 | 0 => [(lo,c lo)]
 | k + 1 => if c (lo + (k + 1:Nat)) < c (lo + k) then falls c lo k ++ [(lo + (k + 1:Nat),c (lo + (k + 1:Nat)))] else falls c lo k
theorem wX {c:Int -> Nat} {lo:Int} {a:Nat}:∀ {k:Nat},a <= k -> (∀ j,a <= j -> j <= k -> c (lo + j) = c (lo + a)) -> falls c lo k = falls c lo a
 | 0,h,_ => by rw [Nat.le_zero.mp h]
 | k + 1,h,hc => by
   rcases Nat.lt_or_eq_of_le h with z | z
   · have ih := wX (c := c) (lo := lo) (a := a) (k := k) (by omega) fun j h1 h2 => hc j h1 (by omega)
     show (if c (lo + (k + 1:Nat)) < c (lo + k) then _ else falls c lo k) = _
     rw [if_neg,ih]
     have e1 := hc (k + 1) (by omega) (Nat.le_refl _)
     have e2 := hc k (by omega) (by omega)
     omega
   · rw [z]
theorem qv {c:Int -> Nat} {lo:Int}:∀ {k:Nat} {p:Int × Nat},p ∈ falls c lo k -> p = (lo,c lo) \/ ∃ j,j < k /\ p = (lo + (j + 1:Nat),c (lo + (j + 1:Nat))) /\ c (lo + (j + 1:Nat)) < c (lo + j)
 | 0,p,h => .inl (List.mem_singleton.mp h)
 | k + 1,p,h => by
   have h:p ∈ (if c (lo + (k + 1:Nat)) < c (lo + k) then falls c lo k ++ [(lo + (k + 1:Nat),c (lo + (k + 1:Nat)))] else falls c lo k) := h
   split at h
   · rcases List.mem_append.mp h with m | m
     · rcases qv m with e | ⟨j,h1,h2⟩
       · exact .inl e
       · exact .inr ⟨j,by omega,h2⟩
     · exact .inr ⟨k,Nat.lt_succ_self _,List.mem_singleton.mp m,by assumption⟩
   · rcases qv h with e | ⟨j,h1,h2⟩
     · exact .inl e
     · exact .inr ⟨j,by omega,h2⟩
theorem qw {c:Int -> Nat} {lo:Int}:∀ k:Nat,(falls c lo k).length <= k + 1
 | 0 => Nat.le_refl _
 | k + 1 => by
   show (if c (lo + (k + 1:Nat)) < c (lo + k) then falls c lo k ++ [(lo + (k + 1:Nat),c (lo + (k + 1:Nat)))] else falls c lo k).length <= _
   have := qw (c := c) (lo := lo) k
   split
   · rw [List.length_append,List.length_singleton]
     omega
   · omega
end Lin
namespace Lin
def wid:List W -> Nat
 | [] => 0
 | a :: r => max a.length (wid r)
theorem qx:∀ {ws:List W} {u:W},u ∈ ws -> u.length <= wid ws
 | a :: r,u,h => by
   show u.length <= max a.length (wid r)
   rcases List.mem_cons.mp h with e | e
   · rw [e]; exact Nat.le_max_left _ _
   · exact Nat.le_trans (qx e) (Nat.le_max_right _ _)
theorem wy:∀ {ws:List W},ws ≠ [] -> ∃ u,u ∈ ws /\ u.length = wid ws
 | [],h => absurd rfl h
 | [a],_ => ⟨a,List.mem_cons_self,(Nat.max_eq_left (Nat.zero_le _)).symm⟩
 | a :: b :: r,_ => by
   obtain ⟨u,hu,e⟩ := wy (ws := b :: r) (by simp)
   by_cases c:a.length <= wid (b :: r)
   · exact ⟨u,List.mem_cons_of_mem _ hu,by rw [e]; exact (Nat.max_eq_right c).symm⟩
   · exact ⟨a,List.mem_cons_self,(Nat.max_eq_left (by omega)).symm⟩
theorem za8 {ws:List W} {M:Int} (hM:M ∈ ws.map fun u => (u.length:Int)) (hle:∀ z ∈ ws.map fun u => (u.length:Int),z <= M):M = (wid ws:Int) := by
 obtain ⟨u,hu,rfl⟩ := List.mem_map.mp hM
 obtain ⟨v,hv,e⟩ := wy (ws := ws) (fun z => by rw [z] at hu; exact (List.not_mem_nil hu).elim)
 have h1 := qx hu
 have h2 := hle (v.length:Int) (List.mem_map.mpr ⟨v,hv,rfl⟩)
 omega
theorem za9 (ws:List W) (k:Nat):0 <= pos ws k := by
 have := x4 ws (Nat.zero_le k)
 rwa [jp] at this
theorem ZQ {ws:List W} (h:ws ≠ []):(wid ws:Int) <= total ws := by
 obtain ⟨u,hu,e⟩ := wy h
 obtain ⟨i,hi,eu⟩ := List.mem_iff_getElem.mp hu
 have ps := pos_succ (List.getElem?_eq_getElem hi)
 rw [eu] at ps
 have := x4 ws (show i + 1 <= ws.length by omega)
 have := za9 ws i
 unfold total
 omega
def xy (ws:List W):List (Int × Nat) := if ws = [] then [(1,1)] else falls (cnt ws) (wid ws) (total ws - wid ws).toNat
theorem WY {ws:List W} {w M v:Int} (hall:∀ z ∈ vals (grp w ws),M <= z) (h1:w <= v) (h2:v < M):cnt ws v = cnt ws w := by
 have e := YF h1 ws fun z hz => Int.lt_of_lt_of_le h2 (hall z hz)
 rw [<- yO,<- yO,<- wx,<- wx,e]
theorem X3 {ws:List W} {lo w M:Int} (h1:lo <= w) (h2:w < M) (hst:∀ v,w <= v -> v < M -> cnt ws v = cnt ws w) :
   falls (cnt ws) lo (M - lo).toNat = if cnt ws M < cnt ws w then falls (cnt ws) lo (w - lo).toNat ++ [(M,cnt ws M)] else falls (cnt ws) lo (w - lo).toNat := by
 obtain ⟨k,hk⟩ : ∃ k:Nat,(M - lo).toNat = k + 1 := ⟨(M - lo).toNat - 1,by omega⟩
 rw [hk]
 show (if cnt ws (lo + (k + 1:Nat)) < cnt ws (lo + k) then falls (cnt ws) lo k ++ [(lo + (k + 1:Nat),cnt ws (lo + (k + 1:Nat)))] else falls (cnt ws) lo k) = _
 have eM:lo + ((k + 1:Nat):Int) = M := by omega
 have e1:cnt ws (lo + (k:Int)) = cnt ws w := hst _ (by omega) (by omega)
 have e2:falls (cnt ws) lo k = falls (cnt ws) lo (w - lo).toNat := wX (by omega) fun j h3 h4 => by
   rw [hst _ (by omega) (by omega),hst (lo + ((w - lo).toNat:Int)) (by omega) (by omega)]
 rw [eM,e1,e2]
theorem WZ {ws:List W} {lo w T:Int} (hn:ws ≠ []) (hw:∀ u ∈ ws,(u.length:Int) <= lo) (h1:lo <= w) (h2:w <= T) (c1:cnt ws w <= 1):falls (cnt ws) lo (T - lo).toNat = falls (cnt ws) lo (w - lo).toNat := by
 refine wX (by omega) fun j h3 h4 => ?_
 have hw':∀ u ∈ ws,(u.length:Int) <= w := fun u hu => Int.le_trans (hw u hu) h1
 have a1 := x6 (ws := ws) (v := w) (v' := lo + (j:Int)) (by omega) hw'
 have a2 := x6 (ws := ws) (v := w) (v' := lo + ((w - lo).toNat:Int)) (by omega) hw'
 have b1 := qL hn (lo + (j:Int))
 have b2 := qL hn (lo + ((w - lo).toNat:Int))
 omega
theorem W1 {ws:List W} {w:Int} (h1:w <= total ws) (c1:1 < cnt ws w):∃ z,z ∈ vals (grp w ws) /\ z <= total ws := by
 apply Classical.byContradiction
 intro no
 have e := YF h1 ws fun z hz => Int.not_le.mp fun y => no ⟨z,hz,y⟩
 have e2:cnt ws (total ws) = cnt ws w := by rw [<- yO,<- yO,<- wx,<- wx,e]
 have := ZP (ws := ws) (total ws) (Int.le_refl _)
 omega
theorem YH:∀ {gs:List (List W)} {i:Nat} {g h:List W},gs[i]? = some g -> gs[i + 1]? = some h -> (vals gs)[i]? = some (val g h)
 | [],i,g,h,e,_ => by simp at e
 | [a],i,g,h,_,e => by simp at e
 | a :: b :: r,0,g,h,e1,e2 => by
   simp at e1 e2
   subst e1 e2
   rfl
 | a :: b :: r,i + 1,g,h,e1,e2 => by
   have := YH (gs := b :: r) (i := i) (g := g) (h := h) (by simpa using e1) (by simpa using e2)
   simpa [vals] using this
theorem XB (ws:List W):(ws.map fun u => (u.length:Int)).sum + ws.length = pos ws ws.length := by
 unfold pos
 rw [List.take_length]
 induction ws with
 | nil => rfl
 | cons a r ih =>
   rw [List.map_cons,List.sum_cons,List.map_cons,List.sum_cons,List.length_cons,<- ih]
   omega
end Lin
namespace L2
open PySem PySem.Spec PyProof.Rows
end L2
namespace L2
open PySem
def GI (mg:Str -> Option Value) (x:Str) (n:Int):Prop := ∃ t,mg x = some (.int n t)
theorem zJ {X:Cx} {x:Str} {n:Int} {pos:Pos} (hg:Gl X x) (h:GI X.mg x n) (hd:(x == ("__debug__" : Str)) = false := by decide):PE X (.Name x pos) (tC (.int n)) := by
 obtain ⟨t,h⟩ := h
 exact j4 hg h ⟨t,rfl⟩ hd
theorem zba {X:Cx} {x:Str} {C:Addr} {pos:Pos} (hg:Gl X x) (hm:X.mg x = some (.ref C)) (hd:(x == ("__debug__" : Str)) = false := by decide):PE X (.Name x pos) (tC (.ref C)) := j4 hg hm rfl hd
theorem yw {X:Cx} {x:Str} {T:String} {pos:Pos} (hg:Gl X x) (hm:X.mg x = none) (hv:bootBuiltins x = some (.type T)) (hn:x ≠ "__name__" := by decide) (hd:(x == ("__debug__" : Str)) = false := by decide):PE X (.Name x pos) (tC (.ty T)) := JP hg hm hv rfl hn hd
end L2
namespace JI
open PySem L2 Lin
def top (i:Nat):Stmt := PySem.Challenge.pw_pagepart_k66_printed.main.body.getD i (.Pass ⟨0,0,0,0⟩)
abbrev qM:Stmt := top 8
abbrev qN:Stmt := top 9
abbrev sAre:Stmt := top 10
abbrev xT:Stmt := top 11
abbrev wz:Stmt := top 12
abbrev wA:Stmt := top 13
abbrev qO:Stmt := top 14
abbrev wB:Stmt := top 15
abbrev xU:Stmt := top 16
abbrev sLw:Stmt := top 72
abbrev sLaw:Stmt := top 75
abbrev wC:Stmt := top 25
abbrev sHas:Stmt := top 32
abbrev sBr:Stmt := top 33
abbrev sNum:Stmt := top 34
abbrev qP:Stmt := top 35
abbrev wD:Stmt := top 71
abbrev qQ:Stmt := top 36
abbrev wE:Stmt := top 37
abbrev qR:Stmt := top 65
abbrev qS:Stmt := top 66
abbrev qT:Stmt := top 40
abbrev sRTx:Stmt := top 41
abbrev sSbs:Stmt := top 42
abbrev sAll:Stmt := top 43
abbrev qU:Stmt := top 44
abbrev sBst:Stmt := top 45
abbrev sSo:Stmt := top 46
abbrev sLow:Stmt := top 47
abbrev qV:Stmt := top 48
abbrev sTst:Stmt := top 49
abbrev sLh:Stmt := top 50
abbrev wF:Stmt := top 51
abbrev wG:Stmt := top 53
abbrev sPa:Stmt := top 54
abbrev sPd:Stmt := top 55
abbrev sPo:Stmt := top 56
abbrev xL:Stmt := top 57
abbrev sHin:Stmt := top 58
abbrev xC:Stmt := top 59
abbrev sPrd:Stmt := top 63
abbrev sLov:Stmt := top 62
theorem fresh {H:Hp} {p:Addr} {o:HO} {R:Hp -> Prop} (hn:H p = none) (k:∀ H1,Same H H1 -> H1 p = some o -> R H1):R (upd H p o) :=
 k _ (fun b u e => by rw [zp (zI e hn)]; exact e) zc
structure Callee (P:Program) (w:World) (K:PySem.W.Frag) (mg:Str -> Option Value) (base:Heap) (CX:CXT) (k:Nat) (x:Str) (f:Addr) (fd:FuncData) (ps:List Str) (sp:Sp):Prop where
 ok:FnOk P w K mg base CX k f fd ps sp
 bound:mg x = some (.ref f)
 kp:PySem.W.keepIn K (.ref f) = true
 bd:Binds K fd ps []
theorem W2 {ns:List Int} {k:Int} (h0:0 <= k) (h1:k < ns.length):atI (ns.map V.int) k = some (.int (ns.getD k.toNat 0)) := by
 obtain ⟨j,rfl⟩ := Int.eq_ofNat_of_zero_le h0
 refine yA ?_
 rw [List.getElem?_map,List.getElem?_eq_getElem (by omega)]
 simp [List.getD,show j < ns.length by omega]
theorem zW {H H1:Hp} {l:Addr} {o:HO} (S:Same H H1) (hn:H l = none):Same H (upd H1 l o) := fun b u e => by
 rw [zp (zI e hn)]
 exact S b u e
theorem zf {H:Hp} {p:Addr} {o:HO} (hn:H p = none):Same H (upd H p o) := fun b u e => by rw [zp (zI e hn)]; exact e
theorem YI {σ:St} {H:Hp}:Evl (tUn (rU fun i => V.int (-i)) (tC (V.int 1))) σ H (.int (-1)) := fun Q q => ⟨1,rfl,q⟩
def tx (ws:List W):List V := ws.map fun w => V.str (txt w)
theorem zT (ws:List W):(tx ws).length = ws.length := List.length_map _
theorem zbb {ws:List W} {i:Nat} {w:W} (h:ws[i]? = some w):(tx ws)[i]? = some (V.str (txt w)) := by
 unfold tx
 rw [List.getElem?_map,h]
 rfl
theorem xD {ws:List W} {i:Nat} {x:V} (h:(tx ws)[i]? = some x):∃ w,ws[i]? = some w /\ x = V.str (txt w) := by
 unfold tx at h
 rw [List.getElem?_map] at h
 cases e:ws[i]? with
 | none => rw [e] at h; cases h
 | some w => rw [e] at h; cases h; exact ⟨w,rfl,rfl⟩
theorem wH (ws:List W) (w:W):tx ws ++ [V.str (txt w)] = tx (ws ++ [w]) := by
 unfold tx
 rw [List.map_append]
 rfl
def good (c:Nat):Prop := 33 <= c /\ c <= 126 /\ c ≠ 37
def okW (w:W):Prop := 1 <= w.length /\ w.length <= 12 /\ ∀ c ∈ w,good c
structure Nm (K:PySem.W.Frag) (mg:Str -> Option Value):Prop where
 gOUT:GI mg "LEFT_OUT" 37
 gMOST:GI mg "MOST_SIGNS" 12
 ti:mg "isinstance" = none
 tstr:mg "str" = none
 tlist:mg "list" = none
 tl:mg "len" = none
 tall:mg "all" = none
 tany:mg "any" = none
 tord:mg "ord" = none
 kNs:PySem.W.kitOne K (.type "NoneType") (.type "str") = some false
 kBs:PySem.W.kitOne K (.type "bool") (.type "str") = some false
 kIs:PySem.W.kitOne K (.type "int") (.type "str") = some false
 kLs:PySem.W.kitOne K (.type "list") (.type "str") = some false
 kTs:PySem.W.kitOne K (.type "tuple") (.type "str") = some false
 kDs:PySem.W.kitOne K (.type "dict") (.type "str") = some false
 kNl:PySem.W.kitOne K (.type "NoneType") (.type "list") = some false
 kSl:PySem.W.kitOne K (.type "str") (.type "list") = some false
 kIl:PySem.W.kitOne K (.type "int") (.type "list") = some false
 kTl:PySem.W.kitOne K (.type "tuple") (.type "list") = some false
 kDl:PySem.W.kitOne K (.type "dict") (.type "list") = some false
 kBl:PySem.W.kitOne K (.type "bool") (.type "list") = some false
def isG (c:Nat):Bool := decide (33 <= c) && (decide (c <= 126) && decide (c ≠ 37))
def isW (l:W):Bool := decide (1 <= l.length) && (decide (l.length <= 12) && l.all isG)
theorem XC {c:Nat}:isG c = true ↔ good c := by
 unfold isG good
 rw [Bool.and_eq_true,Bool.and_eq_true,decide_eq_true_eq,decide_eq_true_eq,decide_eq_true_eq]
theorem zab {l:W}:isW l = true ↔ okW l := by
 unfold isW okW
 rw [Bool.and_eq_true,Bool.and_eq_true,decide_eq_true_eq,decide_eq_true_eq,List.all_eq_true]
 exact and_congr Iff.rfl (and_congr Iff.rfl ⟨fun h c hc => XC.mp (h c hc),fun h c hc => XC.mpr (h c hc)⟩)
inductive NoS (H:Hp):V -> Prop where
 | non:NoS H .non
 | bl (b:Bool):NoS H (.bl b)
 | int (i:Int):NoS H (.int i)
 | lst {a:Addr} {xs:List V} (e:H a = some (.lst xs)):NoS H (.ref a)
 | tup {a:Addr} {xs:List V} (e:H a = some (.tup xs)):NoS H (.ref a)
 | dK {a:Addr} {kvs:List (Key × V)} (e:H a = some (.dK kvs)):NoS H (.ref a)
inductive NoL (H:Hp):V -> Prop where
 | non:NoL H .non
 | bl (b:Bool):NoL H (.bl b)
 | int (i:Int):NoL H (.int i)
 | str (x:Str):NoL H (.str x)
 | tup {a:Addr} {xs:List V} (e:H a = some (.tup xs)):NoL H (.ref a)
 | dK {a:Addr} {kvs:List (Key × V)} (e:H a = some (.dK kvs)):NoL H (.ref a)
theorem NoS.same {H H':Hp} (S:Same H H') {x:V} (h:NoS H x):NoS H' x := by
 cases h with
 | non => exact .non
 | bl b => exact .bl b
 | int i => exact .int i
 | lst e => exact .lst (S _ _ e)
 | tup e => exact .tup (S _ _ e)
 | dK e => exact .dK (S _ _ e)
theorem NoL.same {H H':Hp} (S:Same H H') {x:V} (h:NoL H x):NoL H' x := by
 cases h with
 | non => exact .non
 | bl b => exact .bl b
 | int i => exact .int i
 | str x => exact .str x
 | tup e => exact .tup (S _ _ e)
 | dK e => exact .dK (S _ _ e)
theorem NoS.ty {K:PySem.W.Frag} {mg:Str -> Option Value} (Z:Nm K mg) {H:Hp} {x:V} (h:NoS H x):∃ t,TyX K H x t /\ PySem.W.kitOne K t (.type "str") = some false := by
 cases h with
 | non => exact ⟨_,.of .non,Z.kNs⟩
 | bl b => exact ⟨_,.of (.bl b),Z.kBs⟩
 | int i => exact ⟨_,.of (.int i),Z.kIs⟩
 | lst e => exact ⟨_,.of (.lst e),Z.kLs⟩
 | tup e => exact ⟨_,.of (.tup e),Z.kTs⟩
 | dK e => exact ⟨_,.of (.dK e),Z.kDs⟩
theorem NoL.ty {K:PySem.W.Frag} {mg:Str -> Option Value} (Z:Nm K mg) {H:Hp} {x:V} (h:NoL H x):∃ t,TyX K H x t /\ PySem.W.kitOne K t (.type "list") = some false := by
 cases h with
 | non => exact ⟨_,.of .non,Z.kNl⟩
 | bl b => exact ⟨_,.of (.bl b),Z.kBl⟩
 | int i => exact ⟨_,.of (.int i),Z.kIl⟩
 | str x => exact ⟨_,.of (.str x),Z.kSl⟩
 | tup e => exact ⟨_,.of (.tup e),Z.kTl⟩
 | dK e => exact ⟨_,.of (.dK e),Z.kDl⟩
def JW (H:Hp) (x:V) (b:Bool):Prop := (∃ l:W,x = .str (txt l) /\ (∀ c ∈ l,c < 128) /\ l.length <= 1000 /\ b = isW l) \/ (b = false /\ NoS H x)
theorem JW.same {H H':Hp} (S:Same H H') {x:V} {b:Bool} (h:JW H x b):JW H' x b := h.imp id fun h => ⟨h.1,h.2.same S⟩
def JWs (H:Hp):List V -> List Bool -> Prop := Paired (JW H)
theorem JWs.same {H H':Hp} (S:Same H H'):∀ {vs:List V} {bs:List Bool},JWs H vs bs -> JWs H' vs bs
 | _,_,.nil => .nil
 | _,_,.cons h t => .cons (h.same S) (JWs.same S t)
theorem JWs.len {H:Hp} {vs:List V} {bs:List Bool} (h:JWs H vs bs):vs.length = bs.length := Paired.length h
theorem JWs.get {H:Hp}:∀ {vs:List V} {bs:List Bool} {i:Nat} {v:V},JWs H vs bs -> vs[i]? = some v -> ∃ b,bs[i]? = some b /\ JW H v b
 | _,_,_,_,.nil,e => by simp at e
 | _,_,0,_,.cons r _,e => by simp at e; subst e; exact ⟨_,rfl,r⟩
 | _,_,i + 1,v,.cons _ t,e => by
   obtain ⟨p,h1,h2⟩ := JWs.get (i := i) (v := v) t (by simpa using e)
   exact ⟨p,by simpa using h1,h2⟩
theorem zac {H:Hp} {u:W} (h:okW u):JW H (.str (txt u)) true := .inl ⟨u,rfl,fun c hc => by
 have := h.2.2 c hc
 unfold good at this
 omega,by have := h.2.1; omega,(zab.mpr h).symm⟩
theorem jq {H:Hp}:∀ {ws:List W},(∀ u ∈ ws,okW u) -> JWs H (tx ws) (List.replicate ws.length true)
 | [],_ => .nil
 | u :: r,h => .cons (zac (h u List.mem_cons_self)) (jq (ws := r) fun v hv => h v (List.mem_cons_of_mem _ hv))
def Bad (H:Hp) (x:V):Prop := (∃ (a:Addr) (xs:List V) (bs:List Bool),x = .ref a /\ H a = some (.lst xs) /\ JWs H xs bs /\ xs.length <= 1000 /\ bs.all id = false) \/ NoL H x
def YJ:Sp := fun vs H Q _ => ∃ c:Nat,vs = [.str (txt [c])] /\ Q (.bl (isG c)) H
def YK:Sp := fun vs H Q _ => ∃ (x:V) (b:Bool),vs = [x] /\ JW H x b /\ ∀ H',Same H H' -> Q (.bl b) H'
def Z4:Sp := fun vs H Q _ => ∃ x:V,vs = [x] /\ ((∃ (a:Addr) (xs:List V) (bs:List Bool),x = .ref a /\ H a = some (.lst xs) /\ JWs H xs bs /\ xs.length <= 1000 /\ ∀ H',Same H H' -> Q (.bl (bs.all id)) H') \/ (NoL H x /\ Q (.bl false) H))
def wY (C:Addr):Sp := fun vs H Q E => ∃ x:V,vs = [x] /\ ((∃ (a:Addr) (ws:List W),x = .ref a /\ H a = some (.lst (tx ws)) /\ (∀ w ∈ ws,okW w) /\ ws.length <= 1000 /\ ∀ H',Same H H' -> Q .non H') \/ (Bad H x /\ ∀ H',Same H H' -> E (.ref C) none H'))
def qW:Sp := fun vs H Q _ => ∃ (a:Addr) (ws:List W) (wide:Int),vs = [.ref a,.int wide] /\ H a = some (.lst (tx ws)) /\ (∀ w ∈ ws,okW w) /\ ws.length <= 1000 /\
 ∀ (l:Addr) (H':Hp),Same H H' -> H l = none -> H' l = some (.lst (tx (taken wide ws))) -> Q (.ref l) H'
def qX (C:Addr):Sp := fun vs H Q E => ∃ (x:V) (wide:Int),vs = [x,.int wide] /\ ((∃ (a:Addr) (ws:List W),x = .ref a /\ H a = some (.lst (tx ws)) /\ (∀ w ∈ ws,okW w) /\ ws.length <= 1000 /\ (∀ w ∈ ws,(w.length:Int) <= wide) /\
 ∀ (l:Addr) (H':Hp),Same H H' -> H l = none -> H' l = some (.lst (tx (taken wide ws))) -> Q (.ref l) H') \/ (Bad H x /\ ∀ H',Same H H' -> E (.ref C) none H'))
theorem W3 (c d:Nat):decide ((txt [c]).cps.toList < (txt [d]).cps.toList) = decide (c < d) := by
 rw [decide_eq_decide]
 show ([c]:List Nat) < [d] ↔ c < d
 rw [List.cons_lt_cons_iff]
 constructor
 · rintro (z | ⟨_,z⟩)
   · exact z
   · exact absurd z (List.not_lt_nil _)
 · exact .inl
section
variable {P:Program} {w:World} {K:PySem.W.Frag} {mg:Str -> Option Value} {base:Heap}
theorem zbc:zu ["sign"] ["sign"] (ze qM) := ⟨rfl,rfl,rfl,by decide +kernel,rfl,by decide +kernel,by decide +kernel⟩
theorem zad {f:Addr} {fd:FuncData} (F:Fun K "is_sign" "is_sign" qM f fd) (Z:Nm K mg):FnOk P w K mg base CX0 1 f fd ["sign"] YJ := by
 obtain ⟨gOUT,gMOST,ti,tstr,tlist,tl,tall,tany,tord,_,_,_,_,_,_,_,_,_,_,_,_⟩ := Z
 refine F.ok zbc (fun vs H Q E h => ?_) (fun cdv A outer s H vs Q E hr h => ?_)
 · obtain ⟨c,rfl,_⟩ := h
   rfl
 · obtain ⟨c,rfl,q⟩ := h
   refine ⟨_,(zg (zn (xt (QN ZJ ZJ yd (pv 0) yd) (xW (yJ Jz (zi QO (by rfl) tord PyProof.Rows.boot_ord (za (pv 0) zb)) (zJ rfl gOUT) (zE _)))))),?_⟩
   have e1:("!" : Str) = txt [33] := by decide +kernel
   have e2:("~" : Str) = txt [126] := by decide +kernel
   refine ⟨_,rfl,_,_,rfl,rfl,_,rfl,?_⟩
   have d1:(!decide ((txt [c]).cps.toList < (("!" : Str)).cps.toList)) = decide (33 <= c) := by rw [e1,W3,<- decide_not,decide_eq_decide]; omega
   rw [d1]
   unfold isG at q
   by_cases c1:33 <= c
   · rw [decide_eq_true c1] at q ⊢
     refine iteT ⟨_,_,rfl,rfl,_,rfl,?_⟩
     have d2:(!decide ((("~" : Str)).cps.toList < (txt [c]).cps.toList)) = decide (c <= 126) := by rw [e2,W3,<- decide_not,decide_eq_decide]; omega
     rw [d2]
     by_cases c2:c <= 126
     · rw [decide_eq_true c2] at q ⊢
       refine iteT ⟨_,rfl,_,rfl,rfl,rfl,?_⟩
       have d3:(!decide (V.int (((txt [c]).cps.getD 0 0:Nat)) = V.int 37)) = decide (c ≠ 37) := by
         have:(txt [c]).cps.getD 0 0 = c := rfl
         rw [this,qI]
         by_cases h:c = 37
         · subst h; rfl
         · rw [decide_eq_true h]; simp; omega
       rw [d3]
       exact q
     · rw [decide_eq_false c2] at q ⊢
       exact iteF q
   · rw [decide_eq_false c1] at q ⊢
     exact iteF ⟨_,rfl,iteF q⟩
end
end JI
namespace JI
open PySem L2 Lin
theorem jg (wide:Int) (ws:List W):(∀ w ∈ ws,w.length <= 12) -> ∀ r ∈ taken wide ws,r.length <= 13 * ws.length :=
 snoc_ind (P := fun ws => (∀ w ∈ ws,w.length <= 12) -> ∀ r ∈ taken wide ws,r.length <= 13 * ws.length) (fun _ r hr => (List.not_mem_nil hr).elim) (fun ws w ih h r hr => by
   have ih := ih fun v hv => h v (List.mem_append_left _ hv)
   have hw := h w (by simp)
   rw [xf] at hr
   rw [List.length_append,List.length_singleton]
   unfold put at hr
   split at hr
   · rename_i q e
     have hq := ih q (List.mem_of_getLast? e)
     split at hr
     · rcases List.mem_append.mp hr with m | m
       · have := ih r (List.dropLast_subset _ m)
         omega
       · rw [List.mem_singleton.mp m,List.length_append,List.length_cons]
         omega
     · rcases List.mem_append.mp hr with m | m
       · have := ih r m
         omega
       · rw [List.mem_singleton.mp m]
         omega
   · rw [List.mem_singleton.mp hr]
     omega) _ ws rfl
theorem Q3 (us:List V) (v u:V):ixN (us ++ [v]).length (-1) = some us.length /\ (us ++ [v]).set us.length u = us ++ [u] := by
 refine ⟨?_,?_⟩
 · unfold ixN
   rw [List.length_append,List.length_singleton,if_neg (by omega),if_pos (by omega)]
   congr 1
   omega
 · rw [List.set_append_right _ _ (Nat.le_refl _),Nat.sub_self]
   rfl
section
variable {P:Program} {w:World} {K:PySem.W.Frag} {mg:Str -> Option Value} {base:Heap}
theorem zbd:zu ["thing"] ["thing"] (ze qN) := ⟨rfl,rfl,rfl,by decide +kernel,rfl,by decide +kernel,by decide +kernel⟩
theorem zae {f fS:Addr} {fd fdS:FuncData} (F:Fun K "is_word" "is_word" qN f fd) (Z:Nm K mg) (Si:Callee P w K mg base CX0 1 "is_sign" fS fdS ["sign"] YJ):FnOk P w K mg base CX0 2 f fd ["thing"] YK := by
 have Z' := Z
 obtain ⟨gOUT,gMOST,ti,tstr,tlist,tl,tall,tany,tord,_,_,_,_,_,_,_,_,_,_,_,_⟩ := Z
 refine F.ok zbd (fun vs H Q E h => ?_) (fun cdv A outer s H vs Q E hr h => ?_)
 · obtain ⟨x,b,rfl,_⟩ := h
   rfl
 · obtain ⟨x,b,rfl,hJ,q⟩ := h
   refine ⟨_,(zd (zO (PW.pt (yH (yB (yl (zi yh (by rfl) ti PyProof.Rows.boot_isinstance (za (pv 0) (za (yw rfl tstr PyProof.Rows.boot_str) zb))))) (yR (yB (Yi wb wb zh (zi ye (by rfl) tl PySem.boot_len (za (pv 0) zb)) (zJ rfl gMOST))))))
     (zg (zn wO))
     zH)
     (zg (zn (zi (qo rfl) (by rfl) tall PyProof.Rows.boot_all (za (z9 (Nc := ["sign"]) (ix := [none]) rfl rfl (by exact (za7 (pv 0))) (fun _ _ _ _ _ => (zr (i := 0) (by show (["sign"]:List Str).Nodup; decide +kernel) rfl (Or.inl rfl))) (fun _ _ _ _ _ => zX) (fun _ _ _ _ _ => (zj Si.ok hr rfl Si.bound Si.kp Si.bd .nil zB (za (pv 0) zb)))) zb))))),?_⟩
   rcases hJ with ⟨l,rfl,asc,l1000,rfl⟩ | ⟨rfl,ns⟩
   · refine ⟨_,rfl,_,_,_,_,rfl,rfl,.of (.str _),rfl,_,rfl,iteF ?_⟩
     refine ⟨_,rfl,txt l,rfl,(by rw [zL]; exact Nat.le_trans l1000 (by decide)),_,_,rfl,rfl,_,rfl,?_⟩
     rw [zL]
     have q0 := q H (Same.refl _)
     unfold isW at q q0
     by_cases c1:1 <= l.length
     · rw [decide_eq_true c1] at q q0
       have d1:decide ((1:Int) <= (l.length:Nat)) = true := decide_eq_true (by omega)
       rw [d1]
       refine iteT ⟨_,_,rfl,rfl,_,rfl,?_⟩
       by_cases c2:l.length <= 12
       · rw [decide_eq_true c2] at q q0
         have d2:decide (((l.length:Nat):Int) <= 12) = true := decide_eq_true (by omega)
         rw [d2]
         refine iteF ?_
         refine ⟨_,rfl,l,rfl,asc,J9 (l := l) (fun i ys σ H' => ys = ((l.take i).map isG).map V.bl /\ H' = H /\ ∃ o,σ = [o]) ⟨rfl,rfl,none,rfl⟩
           (fun i ys σ H' hi ⟨e,_⟩ => by rw [e,List.length_map,List.length_map,List.length_take]; exact Nat.le_trans (show _ <= 1000 by omega) (by decide)) ?_ ?_⟩
         · rintro ys σ H' ⟨e,rfl,_⟩ la nl
           rw [List.take_length] at e
           subst e
           refine ⟨la,l.map isG,rfl,SqL.of zc,?_⟩
           rw [List.all_map]
           exact q _ (zf nl)
         · rintro i c ys σ H' hx ⟨e,rfl,o,rfl⟩
           subst e
           obtain ⟨hil,ev⟩ := List.getElem?_eq_some_iff.mp hx
           dsimp only [z6,tYes]
           refine iteT ?_
           refine ⟨_,rfl,c,rfl,?_,rfl,_,rfl⟩
           rw [<- List.take_append_getElem hil,ev,List.map_append,List.map_append]
           rfl
       · rw [decide_eq_false c2] at q q0
         have d2:decide (((l.length:Nat):Int) <= 12) = false := decide_eq_false (by omega)
         rw [d2]
         exact iteT q0
     · rw [decide_eq_false c1] at q q0
       have d1:decide ((1:Int) <= (l.length:Nat)) = false := decide_eq_false (by omega)
       rw [d1]
       exact iteF ⟨_,rfl,iteT q0⟩
   · obtain ⟨t,ty,k⟩ := ns.ty Z'
     exact ⟨_,rfl,_,_,t,_,rfl,rfl,ty,k,_,rfl,iteT (iteT (q H (Same.refl _)))⟩
theorem zb2:zu ["things"] ["things"] (ze sAre) := ⟨rfl,rfl,rfl,by decide +kernel,rfl,by decide +kernel,by decide +kernel⟩
theorem zbe {f fS:Addr} {fd fdS:FuncData} (F:Fun K "are_words" "are_words" sAre f fd) (Z:Nm K mg) (Wo:Callee P w K mg base CX0 2 "is_word" fS fdS ["thing"] YK):FnOk P w K mg base CX0 3 f fd ["things"] Z4 := by
 have Z' := Z
 obtain ⟨gOUT,gMOST,ti,tstr,tlist,tl,tall,tany,tord,_,_,_,_,_,_,_,_,_,_,_,_⟩ := Z
 refine F.ok zb2 (fun vs H Q E h => ?_) (fun cdv A outer s H vs Q E hr h => ?_)
 · obtain ⟨x,rfl,_⟩ := h
   rfl
 · obtain ⟨x,rfl,h⟩ := h
   refine ⟨_,(zg (zn (xt (zi yh (by rfl) ti PyProof.Rows.boot_isinstance (za (pv 0) (za (yw rfl tlist PyProof.Rows.boot_list) zb))) (xW (zi (qo rfl) (by rfl) tall PyProof.Rows.boot_all (za (z9 (Nc := ["thing"]) (ix := [none]) rfl rfl (by refine' yi ?zz; case zz => exact (pv 0)) (fun _ _ _ _ _ => (zr (i := 0) (by show (["thing"]:List Str).Nodup; decide +kernel) rfl (Or.inl rfl))) (fun _ _ _ _ _ => zX) (fun _ _ _ _ _ => (zj Wo.ok hr rfl Wo.bound Wo.kp Wo.bd .nil zB (za (pv 0) zb)))) zb)))))),?_⟩
   rcases h with ⟨a,xs,bs,rfl,ha,hJ,hn,q⟩ | ⟨nl,q⟩
   · refine ⟨_,rfl,_,_,_,_,rfl,rfl,.of (.lst ha),rfl,_,rfl,iteT ?_⟩
     have lb := hJ.len
     refine ⟨_,rfl,a,rfl,⟨_,SqL.of ha⟩,yv (K := K) (a := a) (xs := xs) (fun i ys σ H' => ys = (bs.take i).map V.bl /\ Same H H' /\ ∃ o,σ = [o]) ⟨rfl,Same.refl _,none,rfl⟩
       (fun i ys σ H' hi ⟨e,S,_⟩ => ⟨by rw [e,List.length_map,List.length_take]; exact Nat.le_trans (show _ <= 1000 by omega) (by decide),SqL.of (S _ _ ha)⟩) ?_ ?_⟩
     · rintro ys σ H' ⟨e,S,_⟩ la nl
       rw [lb,List.take_length] at e
       subst e
       exact ⟨la,bs,rfl,SqL.of zc,q _ (S.trans (zf nl))⟩
     · rintro i x ys σ H' hx ⟨e,S,o,rfl⟩
       subst e
       obtain ⟨b,eb,hj⟩ := hJ.get hx
       obtain ⟨hil,ev⟩ := List.getElem?_eq_some_iff.mp eb
       dsimp only [z6,tYes]
       refine iteT ?_
       refine ⟨_,rfl,x,b,rfl,hj.same S,fun H2 S2 => ⟨?_,S.trans S2,_,rfl⟩⟩
       rw [<- List.take_append_getElem hil,ev,List.map_append]
       rfl
   · obtain ⟨t,ty,k⟩ := nl.ty Z'
     exact ⟨_,rfl,_,_,t,_,rfl,rfl,ty,k,_,rfl,iteF q⟩
theorem Q4:zu ["things"] ["things"] (ze xT) := ⟨rfl,rfl,rfl,by decide +kernel,rfl,by decide +kernel,by decide +kernel⟩
theorem W5 {f fS C:Addr} {fd fdS:FuncData} (F:Fun K "refuse_no_words" "refuse_no_words" xT f fd) (ex:Exc K mg "NoTexts" C) (Ar:Callee P w K mg base CX0 3 "are_words" fS fdS ["things"] Z4):FnOk P w K mg base (CXE P w) 4 f fd ["things"] (wY C) := by
 refine F.okE Q4 (fun vs H Q E h => ?_) (fun cdv A outer s H vs Q E hr hh h => ?_)
 · obtain ⟨x,rfl,_⟩ := h
   rfl
 · obtain ⟨x,rfl,h⟩ := h
   refine ⟨_,(zg (zO (yB (yl (zj Ar.ok hr rfl Ar.bound Ar.kp Ar.bd .nil zB (za (pv 0) zb))))
     (zg (xm ex hh rfl (za yd zb)))
     zH)),?_⟩
   rcases h with ⟨a,ws,rfl,ha,hw,hn,q⟩ | ⟨bad,qe⟩
   · refine ⟨_,rfl,_,rfl,.inl ⟨a,tx ws,_,rfl,ha,jq hw,by rw [zT]; exact hn,fun H' S => ⟨_,rfl,?_⟩⟩⟩
     have e:(List.replicate ws.length true).all id = true := by simp
     rw [e]
     exact iteF (q H' S)
   · rcases bad with ⟨a,xs,bs,rfl,ha,hJ,hn,hb⟩ | nl
     · refine ⟨_,rfl,_,rfl,.inl ⟨a,xs,bs,rfl,ha,hJ,hn,fun H' S => ⟨_,rfl,?_⟩⟩⟩
       rw [hb]
       exact iteT ⟨by show 1 <= sizeLine; decide,qe H' S⟩
     · exact ⟨_,rfl,_,rfl,.inr ⟨nl,_,rfl,iteT ⟨by show 1 <= sizeLine; decide,qe H (Same.refl _)⟩⟩⟩
theorem Zd:zu ["words","wide","rows","word"] ["words","wide"] (ze wz) := ⟨rfl,rfl,rfl,by decide +kernel,rfl,by decide +kernel,by decide +kernel⟩
theorem Q5 {f:Addr} {fd:FuncData} (F:Fun K "taken" "taken" wz f fd) (tl:mg "len" = none):FnOk P w K mg base CX0 1 f fd ["words","wide"] qW := by
 refine F.ok Zd (fun vs H Q E h => ?_) (fun cdv A outer s H vs Q E hr h => ?_)
 · obtain ⟨a,ws,wide,rfl,_⟩ := h
   rfl
 · obtain ⟨a,ws,wide,rfl,ha,hw,hn,q⟩ := h
   refine ⟨_,(zd (zx (i := 2) Zd.nd rfl (Or.inl rfl) (zV zb))
     (zd (yq PassesOwn.never rfl (yi (pv 0)) (zr (i := 3) Zd.nd rfl (Or.inl rfl))
     (zg (zO (PW.pt (wm (jk (pv 2) (fun _ => rfl)) (wk (zC wb (zw ya (zw ya (zi ye (by rfl) tl PySem.boot_len (za (zk zy (pv 2) (yP yt zh) (fun _ _ => rfl)) zb)) zh) (zi ye (by rfl) tl PySem.boot_len (za (pv 3) zb))) (pv 1) (zE _)))))
       (zg (qh (zw xw (zw xw (zk zy (pv 2) (yP yt zh) (fun _ _ => rfl)) yd) (pv 3)) (jD (pv 2) (yP yt zh) set_list)))
       (zg (z8 (yz PySem.F.plainAttrs_list PySem.F.slot_list_append PySem.F.type_list_append ym (pv 2) (za (pv 3) zb)))))))
     (zg (zn (pv 2))))),?_⟩
   refine ⟨by show 0 <= sizeLine; decide,fun l nl => ?_⟩
   refine fresh (R := fun H1 => _) nl fun H1 S1 h1 => ?_
   refine ⟨_,rfl,a,rfl,⟨_,SqL.of (S1 _ _ ha)⟩,?_⟩
   refine xz (K := K) (a := a) (xs := tx ws) (fun i σ H2 => ∃ o:Option V,σ = [some (.ref a),some (.int wide),some (.ref l),o] /\ Same H H2 /\ H2 l = some (.lst (tx (taken wide (ws.take i)))))
     ⟨none,rfl,S1,h1⟩ (fun i σ H2 _ ⟨_,_,S,_⟩ => SqL.of (S _ _ ha)) ?_ ?_
   · rintro i x σ H2 hi ⟨o,rfl,S,hl⟩
     obtain ⟨v,hv,rfl⟩ := xD hi
     obtain ⟨hil,ev⟩ := List.getElem?_eq_some_iff.mp hv
     have et:taken wide (ws.take (i + 1)) = put wide (taken wide (ws.take i)) v := by rw [<- List.take_append_getElem hil,ev,xf]
     rw [et]
     have bd := jg wide (ws.take i) fun u hu => (hw u (List.mem_of_mem_take hu)).2.1
     have lb := qp wide (ws.take i)
     rw [List.length_take] at bd lb
     have vb := (hw v (List.mem_of_getElem? hv)).2.1
     generalize taken wide (ws.take i) = rows at hl bd lb ⊢
     refine zF ?_
     unfold put
     cases el:rows.getLast? with
     | none =>
       have e':rows = [] := List.getLast?_eq_none_iff.mp el
       subst e'
       refine ⟨_,rfl,false,.inl ⟨[],SqL.of hl,rfl⟩,iteF ?_⟩
       exact ⟨_,rfl,.inl ⟨rfl,_,SqL.of hl⟩,_,rfl,l,_,_,rfl,rfl,hl,by show 0 < sizeLine; decide,_,rfl,zW S nl,by rw [zc]; rfl⟩
     | some r =>
       have sp := wT el
       have rb := bd r (List.mem_of_getLast? el)
       have ers:tx rows = tx rows.dropLast ++ [V.str (txt r)] := by
         conv => lhs; rw [sp]
         rw [wH]
       have hl2:H2 l = some (.lst (tx rows.dropLast ++ [V.str (txt r)])) := by rw [<- ers]; exact hl
       have ea:atI (tx rows.dropLast ++ [V.str (txt r)]) (-1) = some (V.str (txt r)) := wQ _ _
       have rs:r.length <= 100000 := by omega
       refine ⟨_,rfl,true,.inl ⟨_,SqL.of hl2,by simp⟩,iteT ?_⟩
       refine zZ (p := (r.length:Int) + 1 + v.length <= wide) (zS (zS (zS (x5 (xc (zl rfl) YI (SqL.of hl2) ea) (by omega)) zU) (x5 (zl rfl) (by omega))) (zl rfl)) _ ?_
       dsimp only
       refine ite2 (fun c => ?_) (fun c => ?_)
       · have c := of_decide_eq_true c
         rw [if_pos c]
         have sl := Q3 (tx rows.dropLast) (V.str (txt r)) (V.str (txt (r ++ 32 :: v)))
         refine YC (w := v) (YC (w := [32]) (xc (zl rfl) YI (SqL.of hl2) ea) zU (by simp; omega)) (zl rfl) (by simp; omega) _ ?_
         refine ⟨_,rfl,_,rfl,l,_,_,_,rfl,rfl,hl2,sl.1,?_⟩
         refine ⟨_,rfl,zW S nl,?_⟩
         rw [zc]
         have e2:r ++ [32] ++ v = r ++ 32 :: v := by simp
         rw [e2,sl.2,wH]
       · have c:¬ (r.length:Int) + 1 + v.length <= wide := fun z => c (decide_eq_true z)
         rw [if_neg c]
         refine ⟨_,rfl,.inl ⟨rfl,_,SqL.of hl⟩,_,rfl,l,_,_,rfl,rfl,hl,?_,_,rfl,zW S nl,by rw [zc,wH]⟩
         rw [zT]
         exact Nat.lt_of_le_of_lt (show rows.length <= 1000 by omega) (by decide)
   · rintro σ H2 ⟨o,rfl,S,hl⟩
     rw [zT,List.take_length] at hl
     exact ⟨_,rfl,q l H2 S nl hl⟩
theorem Q6 (ws:List W) (wide:Int):(ws.map fun w => decide (wide < (w.length:Int))).any id = !decide (∀ w ∈ ws,(w.length:Int) <= wide) := by
 rw [Bool.eq_iff_iff]
 simp only [List.any_map,List.any_eq_true,Function.comp,id,decide_eq_true_eq,Bool.not_eq_true',decide_eq_false_iff_not,Classical.not_forall]
 constructor
 · rintro ⟨u,hu,z⟩
   exact ⟨u,hu,by omega⟩
 · rintro ⟨u,hu,z⟩
   exact ⟨u,hu,by omega⟩
end
end JI
namespace JI
open PySem L2 Lin
def PrAt (H:Hp) (v:V) (p:Int × Nat):Prop := ∃ a,v = .ref a /\ H a = some (.tup [.int p.1,.int (p.2:Nat)])
def yf (H:Hp):List V -> List (Int × Nat) -> Prop := Paired (PrAt H)
theorem PrAt.same {H H':Hp} (S:Same H H') {v:V} {p:Int × Nat} (h:PrAt H v p):PrAt H' v p := let ⟨a,e,z⟩ := h; ⟨a,e,S _ _ z⟩
theorem yf.imp {H H':Hp} (f:∀ v p,PrAt H v p -> PrAt H' v p):∀ {vs:List V} {ps:List (Int × Nat)},yf H vs ps -> yf H' vs ps
 | _,_,.nil => .nil
 | _,_,.cons h t => .cons (f _ _ h) (yf.imp f t)
theorem yf.same {H H':Hp} (S:Same H H') {vs:List V} {ps:List (Int × Nat)} (h:yf H vs ps):yf H' vs ps := yf.imp (fun _ _ => PrAt.same S) h
theorem yf.len {H:Hp} {vs:List V} {ps:List (Int × Nat)} (h:yf H vs ps):vs.length = ps.length := Paired.length h
theorem PrAt.upd {H:Hp} {l:Addr} {xs:List V} {o':HO} (hl:H l = some (.lst xs)) {v:V} {p:Int × Nat} (h:PrAt H v p):PrAt (upd H l o') v p := by
 obtain ⟨a,e,z⟩ := h
 exact ⟨a,e,by rw [zp (y9 z hl (by intro q; cases q))]; exact z⟩
theorem yf.upd {H:Hp} {l:Addr} {xs:List V} {o':HO} (hl:H l = some (.lst xs)) {vs:List V} {ps:List (Int × Nat)} (h:yf H vs ps):yf (upd H l o') vs ps := yf.imp (fun _ _ => PrAt.upd hl) h
theorem yf.snoc {H:Hp} {vs:List V} {ps:List (Int × Nat)} {v:V} {p:Int × Nat} (h:yf H vs ps) (r:PrAt H v p):yf H (vs ++ [v]) (ps ++ [p]) := Paired.snoc h r
theorem YL {u:W} (h:okW u):u ≠ [] /\ 32 ∉ u := by
 refine ⟨fun z => ?_,fun z => ?_⟩
 · have := h.1
   rw [z] at this
   simp at this
 · have := (h.2.2 32 z).1
   omega
theorem YM {gs:List (List W)}:∀ {g:List W},g ∈ gs -> g.length <= gs.flatten.length := by
 induction gs with
 | nil => intro g h; exact (List.not_mem_nil h).elim
 | cons a r ih =>
   intro g h
   rw [List.flatten_cons,List.length_append]
   rcases List.mem_cons.mp h with e | e
   · rw [e]; omega
   · have := ih e
     omega
theorem we (xs:List V) (k:Nat) (h:k <= xs.length):cutV xs (some (k:Int)) none = xs.drop k := by
 unfold cutV
 rw [HT.xl,HT.j7,Nat.min_eq_left h]
 exact List.take_of_length_le (by rw [List.length_drop]; exact Nat.le_refl _)
def YN:Sp := fun vs H Q _ => ∃ g h:List W,vs = [.str (txt (glue g)),.str (txt (glue h))] /\ h ≠ [] /\ (∀ u ∈ h,okW u) /\ (glue g).length <= 100000 /\ (glue h).length <= 100000 /\ h.length <= 1000 /\ ∀ H',Same H H' -> Q (.int (val g h)) H'
def YO:Sp := fun vs H Q _ => ∃ (a:Addr) (gs:List (List W)),vs = [.ref a] /\ H a = some (.lst (tx (gs.map glue))) /\ (∀ g ∈ gs,g ≠ [] /\ (∀ u ∈ g,okW u) /\ (glue g).length <= 100000 /\ g.length <= 1000) /\ 2 <= gs.length /\ gs.length <= 1000 /\
 ∀ M,M ∈ vals gs -> (∀ z ∈ vals gs,M <= z) -> ∀ H',Same H H' -> Q (.int M) H'
def jr (C:Addr):Sp := fun vs H Q E => ∃ x:V,vs = [x] /\ ((∃ (a:Addr) (ws:List W),x = .ref a /\ H a = some (.lst (tx ws)) /\ (∀ w ∈ ws,okW w) /\ ws.length <= 1000 /\
 ∀ (l:Addr) (us:List V) (H':Hp),Same H H' -> H l = none -> H' l = some (.lst us) -> yf H' us (xy ws) -> Q (.ref l) H') \/ (Bad H x /\ ∀ H',Same H H' -> E (.ref C) none H'))
section
variable {P:Program} {w:World} {K:PySem.W.Frag} {mg:Str -> Option Value} {base:Heap}
theorem zbf:zu ["row","behind"] ["row","behind"] (ze qO) := ⟨rfl,rfl,rfl,by decide +kernel,rfl,by decide +kernel,by decide +kernel⟩
theorem zaf {f:Addr} {fd:FuncData} (F:Fun K "with_next_word" "with_next_word" qO f fd) (tl:mg "len" = none):FnOk P w K mg base CX0 1 f fd ["row","behind"] YN := by
 refine F.ok zbf (fun vs H Q E h => ?_) (fun cdv A outer s H vs Q E hr h => ?_)
 · obtain ⟨g,h,rfl,_⟩ := h
   rfl
 · obtain ⟨g,h,rfl,hn,hw,lg,lh,nh,q⟩ := h
   refine ⟨_,(zg (zn (zw ya (zw ya (zi ye (by rfl) tl PySem.boot_len (za (pv 0) zb)) zh) (zi ye (by rfl) tl PySem.boot_len (za (zk zy (yz PySem.F.plainAttrs_str PySem.F.slot_str_split PySem.F.type_str_split WV (pv 1) (by exact (za yd zb))) zh (fun _ _ => rfl)) zb))))),?_⟩
   refine ⟨_,rfl,_,rfl,(by rw [zL]; exact Nat.le_trans lg (by decide)),_,_,rfl,rfl,_,rfl,rfl,h,rfl,rfl,hn,(fun u hu => YL (hw u hu)),by omega,by omega,fun l nl => ?_⟩
   obtain ⟨u,r,rfl⟩ : ∃ u r,h = u :: r := by
     cases h with
     | nil => exact absurd rfl hn
     | cons u r => exact ⟨u,r,rfl⟩
   have hu := hw u List.mem_cons_self
   refine ⟨l,_,_,V.str (txt u),rfl,rfl,SqL.of zc,(by exact yA (xs := (u :: r).map fun w => V.str (txt w)) (j := 0) rfl),_,rfl,(by rw [zL]; exact Nat.le_trans hu.2.1 (by decide)),_,_,rfl,rfl,?_⟩
   have := q _ (zf (o := .lst ((u :: r).map fun w => V.str (txt w))) nl)
   rw [zL,zL]
   exact this
theorem zbg:zu ["rows"] ["rows"] (ze wB) := ⟨rfl,rfl,rfl,by decide +kernel,rfl,by decide +kernel,by decide +kernel⟩
theorem zag {f fW:Addr} {fd fdW:FuncData} (F:Fun K "next_width" "next_width" wB f fd) (tmin:mg "min" = none) (tzip:mg "zip" = none) (Wn:Callee P w K mg base CX0 1 "with_next_word" fW fdW ["row","behind"] YN):FnOk P w K mg base CX0 2 f fd ["rows"] YO := by
 refine F.ok zbg (fun vs H Q E h => ?_) (fun cdv A outer s H vs Q E hr h => ?_)
 · obtain ⟨a,gs,rfl,_⟩ := h
   rfl
 · obtain ⟨a,gs,rfl,ha,hg,n2,n3,q⟩ := h
   refine ⟨_,(zg (zn (zi (WQ rfl) (by rfl) tmin PyProof.Rows.boot_min (za (z9 (Nc := ["row","behind"]) (ix := [none,none]) rfl rfl (by exact (jQ rfl tzip (za (pv 0) (za (yG xP (pv 0) (yL zh) xb) zb)))) (fun _ _ _ _ _ => (wv (K := K) (n := 2) rfl rfl (zP (zr (i := 0) (by show (["row","behind"]:List Str).Nodup; decide +kernel) rfl (Or.inl rfl)) (zP (zr (i := 1) (by show (["row","behind"]:List Str).Nodup; decide +kernel) rfl (Or.inl rfl)) yU)))) (fun _ _ _ _ _ => zX) (fun _ _ _ _ _ => (zj Wn.ok hr rfl Wn.bound Wn.kp Wn.bd .nil zB (za (pv 0) (za (pv 1) zb))))) zb)))),?_⟩
   refine ⟨_,rfl,_,rfl,_,rfl,a,_,rfl,SqL.of ha,fun pc nc => ?_⟩
   have Sc := zf (o := .lst (cutV (tx (gs.map glue)) (some 1) none)) nc
   have lgs:(tx (gs.map glue)).length = gs.length := by rw [zT,List.length_map]
   have hpc:(upd H pc (.lst (cutV (tx (gs.map glue)) (some 1) none))) pc = some (.lst ((tx (gs.map glue)).drop 1)) := by
     rw [zc]
     exact congrArg (fun z => some (HO.lst z)) (we _ 1 (by omega))
   have ha2 := Sc _ _ ha
   generalize upd H pc (.lst (cutV (tx (gs.map glue)) (some 1) none)) = H1 at Sc hpc ha2
   have lm:min (tx (gs.map glue)).length ((tx (gs.map glue)).drop 1).length = gs.length - 1 := by
     rw [List.length_drop,lgs]
     omega
   refine ⟨a,pc,rfl,⟨_,SqL.of ha2⟩,⟨_,SqL.of hpc⟩,Zc (K := K) (a := a) (b := pc) (xs := tx (gs.map glue)) (ys := (tx (gs.map glue)).drop 1) (fun i us σ H' => us = ((vals gs).take i).map V.int /\ Same H1 H' /\ ∃ o1 o2,σ = [o1,o2])
     ⟨rfl,Same.refl _,none,none,rfl⟩ (fun i us σ H' hi ⟨e,S,_⟩ => ⟨by rw [e,List.length_map,List.length_take,wW]; exact Nat.le_trans (show _ <= 1000 by omega) (by decide),SqL.of (S _ _ ha2),SqL.of (S _ _ hpc)⟩) ?_ ?_⟩
   · rintro us σ H' ⟨e,S,_⟩ l nl
     rw [lm,<- wW gs,List.take_length] at e
     subst e
     refine ⟨l,vals gs,rfl,SqL.of zc,by rw [wW]; omega,fun M hM hle => ?_⟩
     exact q M hM hle _ (Sc.trans (S.trans (zf nl)))
   · rintro i x y us σ H' p hx hy ⟨e,S,o1,o2,rfl⟩ hn
     subst e
     obtain ⟨z1,hz1,rfl⟩ := xD hx
     rw [List.getElem?_drop] at hy
     obtain ⟨z2,hz2,rfl⟩ := xD hy
     rw [List.getElem?_map] at hz1 hz2
     obtain ⟨g,eg,rfl⟩ : ∃ g,gs[i]? = some g /\ z1 = glue g := by
       cases e:gs[i]? with
       | none => rw [e] at hz1; cases hz1
       | some g => rw [e] at hz1; cases hz1; exact ⟨g,rfl,rfl⟩
     obtain ⟨h,eh,rfl⟩ : ∃ h,gs[i + 1]? = some h /\ z2 = glue h := by
       rw [Nat.add_comm 1 i] at hz2
       cases e:gs[i + 1]? with
       | none => rw [e] at hz2; cases hz2
       | some g => rw [e] at hz2; cases hz2; exact ⟨g,rfl,rfl⟩
     have ev := YH eg eh
     obtain ⟨hil,ev'⟩ := List.getElem?_eq_some_iff.mp ev
     have G := hg g (List.mem_of_getElem? eg)
     have Hh := hg h (List.mem_of_getElem? eh)
     have Sp := zf (o := .tup [V.str (txt (glue g)),V.str (txt (glue h))]) hn
     refine ⟨p,_,rfl,SqT.of zc,rfl,_,_,rfl,_,_,rfl,rfl,?_⟩
     dsimp only [tYes]
     refine iteT ?_
     refine ⟨_,rfl,_,rfl,g,h,rfl,Hh.1,Hh.2.1,G.2.2.1,Hh.2.2.1,Hh.2.2.2,fun H2 S2 => ⟨?_,S.trans (Sp.trans S2),_,_,rfl⟩⟩
     rw [<- List.take_append_getElem hil,List.map_append,ev']
     rfl
theorem xn:zu ["words","wide","rows","stairs","fewer"] ["words"] (ze xU) := ⟨rfl,rfl,rfl,by decide +kernel,rfl,by decide +kernel,by decide +kernel⟩
theorem W6 {f fR fT fN C:Addr} {fd fdR fdT fdN:FuncData} (F:Fun K "text_stairs" "text_stairs" xU f fd) (tl:mg "len" = none) (tmax:mg "max" = none) (Re:Callee P w K mg base (CXE P w) 4 "refuse_no_words" fR fdR ["things"] (wY C))
   (Ta:Callee P w K mg base CX0 1 "taken" fT fdT ["words","wide"] qW) (Nw:Callee P w K mg base CX0 2 "next_width" fN fdN ["rows"] YO):FnOk P w K mg base (CXE P w) 5 f fd ["words"] (jr C) := by
 refine F.okE xn (fun vs H Q E h => ?_) (fun cdv A outer s H vs Q E hr hh h => ?_)
 · obtain ⟨x,rfl,_⟩ := h
   rfl
 · obtain ⟨x,rfl,h⟩ := h
   refine ⟨_,(zd (z8 (zj Re.ok hr rfl Re.bound Re.kp Re.bd .nil y3 (za (pv 0) zb)))
     (zd (zO (yB (jk (pv 0) (fun _ => rfl)))
     (zg (zn (zV (za (yK (za zh (za zh zb))) zb))))
     zH)
     (zd (zx (i := 1) xn.nd rfl (Or.inl rfl) (zi (WR rfl) (by rfl) tmax PyProof.Rows.boot_max (za (z9 (Nc := ["word"]) (ix := [none]) rfl rfl (by refine' yi ?zz; case zz => exact (pv 0)) (fun _ _ _ _ _ => (zr (i := 0) (by show (["word"]:List Str).Nodup; decide +kernel) rfl (Or.inl rfl))) (fun _ _ _ _ _ => zX) (fun _ _ _ _ _ => (zi ye (by rfl) tl PySem.boot_len (za (pv 0) zb)))) zb)))
     (zd (zx (i := 2) xn.nd rfl (Or.inl rfl) (zj Ta.ok (hr.mono (show 1 <= 4 by decide)) rfl Ta.bound Ta.kp Ta.bd .nil zB (za (pv 0) (za (pv 1) zb))))
     (zd (zx (i := 3) xn.nd rfl (Or.inl rfl) (zV (za (yK (za (pv 1) (za (zi zm (by rfl) tl PySem.boot_len (za (pv 2) zb)) zb))) zb)))
     (zd (PS.nox (wP PassesOwn.never (zC yY (zi zm (by rfl) tl PySem.boot_len (za (pv 2) zb)) zh (zE _))
     (zd (zx (i := 1) xn.nd rfl (Or.inl rfl) (zj Nw.ok (hr.mono (show 2 <= 4 by decide)) rfl Nw.bound Nw.kp Nw.bd .nil zB (za (pv 2) zb)))
       (zd (zx (i := 4) xn.nd rfl (Or.inl rfl) (zj Ta.ok (hr.mono (show 1 <= 4 by decide)) rfl Ta.bound Ta.kp Ta.bd .nil zB (za (pv 0) (za (pv 1) zb))))
       (zd (zO (zC xv (zi zm (by rfl) tl PySem.boot_len (za (pv 4) zb)) (zi zm (by rfl) tl PySem.boot_len (za (pv 2) zb)) (zE _))
       (zg (z8 (yz PySem.F.plainAttrs_list PySem.F.slot_list_append PySem.F.type_list_append ym (pv 3) (za (yK (za (pv 1) (za (zi zm (by rfl) tl PySem.boot_len (za (pv 4) zb)) zb))) zb))))
       zH)
       (zg (zx (i := 2) xn.nd rfl (Or.inl rfl) (pv 4))))))))
     (zg (zn (pv 3))))))))),?_⟩
   rcases h with ⟨a,ws,rfl,ha,hw,hn,q⟩ | ⟨bad,qe⟩
   case inr => exact ⟨_,rfl,_,rfl,.inr ⟨bad,fun H' S => qe H' S⟩⟩
   refine ⟨_,rfl,_,rfl,.inl ⟨a,ws,rfl,ha,hw,hn,fun H1 S1 => ?_⟩⟩
   have ha1 := S1 _ _ ha
   by_cases h0:ws = []
   · subst h0
     refine ⟨_,rfl,false,.inl ⟨[],SqL.of ha1,rfl⟩,iteT ?_⟩
     refine ⟨by show 2 <= sizeLine; decide,fun p np => ⟨by show 1 <= sizeLine; decide,fun l nl => ?_⟩⟩
     have Sp := zf (o := .tup [.int 1,.int 1]) np
     have Sl := zf (o := .lst [.ref p]) nl
     refine q l [.ref p] _ (S1.trans (Sp.trans Sl)) ((S1.trans Sp).free nl) zc ?_
     show yf _ _ [(1,1)]
     exact .cons ⟨p,rfl,Sl _ _ zc⟩ .nil
   have ht:(!(tx ws).isEmpty) = true := by
     cases ws with
     | nil => exact absurd rfl h0
     | cons a r => rfl
   refine ⟨_,rfl,true,.inl ⟨_,SqL.of ha1,ht.symm⟩,iteF ?_⟩
   have w12:∀ u ∈ ws,u.length <= 12 := fun u hu => (hw u hu).2.1
   refine ⟨_,rfl,a,rfl,⟨_,SqL.of ha1⟩,yv (K := K) (a := a) (xs := tx ws) (fun i ys σ H' => ys = ((ws.take i).map fun u => (u.length:Int)).map V.int /\ H' = H1 /\ ∃ o,σ = [o]) ⟨rfl,rfl,none,rfl⟩
     (fun i ys σ H' hi ⟨e,e2,_⟩ => ⟨by rw [e,List.length_map,List.length_map,List.length_take]; exact Nat.le_trans (show _ <= 1000 by omega) (by decide),by rw [e2]; exact SqL.of ha1⟩) ?_ ?_⟩
   case refine_2 =>
     rintro i x ys σ H' hx ⟨e,rfl,o,rfl⟩
     subst e
     obtain ⟨v,hv,rfl⟩ := xD hx
     obtain ⟨hil,ev⟩ := List.getElem?_eq_some_iff.mp hv
     dsimp only [z6,tYes]
     refine iteT ?_
     refine x5 (zl rfl) (Nat.le_trans (w12 v (List.mem_of_getElem? hv)) (by decide)) _ ?_
     refine ⟨?_,rfl,_,rfl⟩
     rw [<- List.take_append_getElem hil,ev,List.map_append,List.map_append]
     rfl
   rintro ys σ H' ⟨e,rfl,_⟩ p2 n2
   rw [zT,List.take_length] at e
   subst e
   have S2 := zf (o := .lst ((ws.map fun u => (u.length:Int)).map V.int)) n2
   have hp2:(upd H' p2 (.lst ((ws.map fun u => (u.length:Int)).map V.int))) p2 = some (.lst ((ws.map fun u => (u.length:Int)).map V.int)) := zc
   have S12 := S1.trans S2
   generalize upd H' p2 (.lst ((ws.map fun u => (u.length:Int)).map V.int)) = H2 at S2 hp2 S12
   refine ⟨p2,_,rfl,SqL.of hp2,by rw [List.length_map]; exact List.length_pos_iff.mpr h0,fun M hM1 hM => ?_⟩
   have eM := za8 hM1 hM
   subst eM
   have hwl:∀ u ∈ ws,(u.length:Int) <= (wid ws:Int) := fun u hu => Int.ofNat_le.mpr (qx hu)
   refine ⟨_,rfl,_,rfl,a,ws,wid ws,rfl,S12 _ _ ha,hw,hn,fun lr H3 S3 _ hlr => ?_⟩
   have S13 := S12.trans S3
   refine ⟨_,rfl,_,rfl,_,_,rfl,.inl (SqL.of hlr),by show 2 <= sizeLine; decide,fun p np => ⟨by show 1 <= sizeLine; decide,fun ls nls => ?_⟩⟩
   have Sp := zf (o := .tup [.int (wid ws),.int ((tx (taken (wid ws) ws)).length:Nat)]) np
   have Sl := zf (o := .lst [.ref p]) nls
   have Spl := Sp.trans Sl
   have fls:H ls = none := (S13.trans Sp).free nls
   have nlr:lr ≠ ls := zI (Sp _ _ hlr) nls
   have hlr4 := Spl _ _ hlr
   have S4 := S13.trans Spl
   have hls:(upd (upd H3 p (.tup [.int (wid ws),.int ((tx (taken (wid ws) ws)).length:Nat)])) ls (.lst [.ref p])) ls = some (.lst [.ref p]) := zc
   have hP:yf (upd (upd H3 p (.tup [.int (wid ws),.int ((tx (taken (wid ws) ws)).length:Nat)])) ls (.lst [.ref p])) [.ref p] (falls (cnt ws) (wid ws) ((wid ws:Int) - wid ws).toNat) := by
     rw [Int.sub_self]
     refine .cons ⟨p,rfl,?_⟩ .nil
     rw [Sl _ _ zc,zT,yO]
   generalize upd (upd H3 p (.tup [.int (wid ws),.int ((tx (taken (wid ws) ws)).length:Nat)])) ls (.lst [.ref p]) = H4 at hlr4 S4 hls hP
   clear Sp Sl Spl np nls S3 hlr S13 S12 hp2 S2 n2
   have hT := ZQ h0
   refine run_seq ?_
   refine Zb (fun m σ H5 => ∃ (wd:Int) (lr:Addr) (us:List V) (o4:Option V),m = (total ws - wd).toNat /\ (wid ws:Int) <= wd /\ wd <= total ws /\ σ = [some (.ref a),some (.int wd),some (.ref lr),some (.ref ls),o4] /\ Same H H5 /\ H5 lr = some (.lst (tx (taken wd ws))) /\ lr ≠ ls /\
       H5 ls = some (.lst us) /\ yf H5 us (falls (cnt ws) (wid ws) (wd - wid ws).toNat) /\ us.length <= 14000) _ ⟨(wid ws:Int),lr,[.ref p],none,rfl,Int.le_refl _,hT,rfl,S4,hlr4,nlr,hls,hP,by show 1 <= 14000; decide⟩ ?_
   clear hlr4 S4 hls hP nlr
   rintro m σ H5 ⟨wd,lr,us,o4,rfl,h1,h2,rfl,S5,hlr,nlr,hls,hP,ulen⟩
   have ct := yO ws wd
   refine ⟨(1:Int) < ((tx (taken wd ws)).length:Nat),inferInstance,zZ (zS (yu (zl rfl) (SqL.of hlr)) zU),fun c => ?_,fun c => ?_⟩
   · rw [zT,ct] at c
     have c1:1 < cnt ws wd := by omega
     have hwd:∀ u ∈ ws,(u.length:Int) <= wd := fun u hu => Int.le_trans (hwl u hu) h1
     obtain ⟨z0,hz0,hz1⟩ := W1 h2 c1
     have bt := jg wd ws w12
     have gl := wx wd ws
     have gg := YE wd ws
     have gf := Q2 wd ws
     have gn := (jR wd ws).1
     have hlr':H5 lr = some (.lst (tx ((grp wd ws).map glue))) := by rw [gg]; exact hlr
     refine ⟨_,rfl,lr,grp wd ws,rfl,hlr',fun g hg => ⟨gn g hg,fun u hu => hw u ?_,?_,?_⟩,by omega,?_,fun M hM hle H6 S6 => ?_⟩
     · rw [<- gf]
       exact List.mem_flatten.mpr ⟨g,hg,hu⟩
     · have:glue g ∈ taken wd ws := by rw [<- gg]; exact List.mem_map.mpr ⟨g,hg,rfl⟩
       have := bt _ this
       omega
     · have := YM hg
       rw [gf] at this
       omega
     · rw [gl]
       exact Nat.le_trans (qp wd ws) hn
     have hMw := WX wd ws M hM
     have hMT:M <= total ws := Int.le_trans (hle z0 hz0) hz1
     have jump := X3 (ws := ws) (lo := wid ws) h1 hMw fun v a1 a2 => WY (M := M) hle a1 a2
     have S56 := S5.trans S6
     refine ⟨_,rfl,_,rfl,a,ws,M,rfl,S56 _ _ ha,hw,hn,fun lf H7 S7 nlf hlf => ?_⟩
     have S67 := S6.trans S7
     have hls7 := S67 _ _ hls
     have hlr7 := S67 _ _ hlr
     have hP7 := hP.same S67
     have S57 := S5.trans S67
     have nlf2:lf ≠ ls := fun z => by rw [z] at nlf; rw [S6 _ _ hls] at nlf; cases nlf
     have cf := yO ws M
     try dsimp only
     refine Xz (R := fun σ H8 => ∃ us:List V,σ = [some (.ref a),some (.int M),some (.ref lr),some (.ref ls),some (.ref lf)] /\ Same H H8 /\ H8 lf = some (.lst (tx (taken M ws))) /\ H8 ls = some (.lst us) /\ yf H8 us (falls (cnt ws) (wid ws) (M - wid ws).toNat) /\ us.length <= 14000) ?_ (fun k => ?_)
     case refine_1 =>
       rintro σ H8 ⟨us,rfl,S8,hlf8,hls8,hP8,ul8⟩
       refine ⟨_,rfl,(total ws - M).toNat,by omega,M,lf,us,_,rfl,by omega,hMT,rfl,S8,hlf8,nlf2,hls8,hP8,ul8⟩
     refine xK (p := ((tx (taken M ws)).length:Int) < ((tx (taken wd ws)).length:Nat)) (zZ (zS (yu (zl rfl) (SqL.of hlf)) (yu (zl rfl) (SqL.of hlr7)))) (fun c2 => ?_) (fun c2 => ?_)
     · rw [zT,zT,ct,cf] at c2
       rw [if_pos (by omega)] at jump
       refine ⟨_,rfl,.inl ⟨rfl,_,SqL.of hls7⟩,_,rfl,_,rfl,_,_,rfl,.inl (SqL.of hlf),by show 2 <= sizeLine; decide,fun p np => ?_⟩
       have Sp := zf (o := .tup [.int M,.int ((tx (taken M ws)).length:Nat)]) np
       have hls8 := Sp _ _ hls7
       have ul:us.length = (falls (cnt ws) (wid ws) (wd - wid ws).toNat).length := hP.len
       have fl := qw (c := cnt ws) (lo := (wid ws:Int)) (wd - wid ws).toNat
       have tb:total ws <= 13000 := by
         have e := XB ws
         have:(ws.map fun u => (u.length:Int)).sum <= 12 * ws.length := by
           have:∀ l:List W,(∀ u ∈ l,u.length <= 12) -> (l.map fun u => (u.length:Int)).sum <= 12 * l.length := fun l => by
             induction l with
             | nil => intro _; exact Int.le_refl _
             | cons x r ih =>
               intro hx
               have i1 := ih fun u hu => hx u (List.mem_cons_of_mem _ hu)
               have i2 := hx x List.mem_cons_self
               rw [List.map_cons,List.sum_cons,List.length_cons]
               omega
           exact this ws w12
         unfold total
         omega
       refine ⟨ls,_,_,rfl,rfl,hls8,by rw [show us.length = _ from ul]; exact Nat.lt_of_le_of_lt (show _ <= 14000 by omega) (by decide),?_⟩
       refine k _ _ ⟨us ++ [.ref p],rfl,zW (S57.trans Sp) fls,?_,zc,?_,?_⟩
       · rw [zp nlf2]
         exact Sp _ _ hlf
       · rw [jump]
         refine ((hP7.same Sp).upd hls8).snoc ⟨p,rfl,?_⟩
         rw [zp (fun z => by rw [z,hls7] at np; cases np),zc,zT,cf]
       · rw [List.length_append,List.length_singleton,ul]
         omega
     · rw [zT,zT,ct,cf] at c2
       rw [if_neg (by omega)] at jump
       refine zY ?_
       exact k _ _ ⟨us,rfl,S57,hlf,hls7,by rw [jump]; exact hP7,ulen⟩
   · rw [zT,ct] at c
     refine ⟨_,rfl,q ls us H5 S5 fls hls ?_⟩
     unfold xy
     rw [if_neg h0,WZ h0 hwl h1 h2 (by omega)]
     exact hP
end
end JI
namespace Tre
open PySem L2
inductive T where
 | non | bl (b:Bool) | int (i:Int) | str (x:Str) | tup (ts:List T) | lst | dic
mutual
def sz:T -> Nat
 | .tup ts => 1 + szL ts
 | .non => 1
 | .bl _ => 1
 | .int _ => 1
 | .str _ => 1
 | .lst => 1
 | .dic => 1
def szL:List T -> Nat
 | [] => 0
 | t :: r => sz t + szL r
end
theorem qz:∀ t:T,0 < sz t
 | .tup ts => by unfold sz; omega
 | .non => by unfold sz; omega
 | .bl _ => by unfold sz; omega
 | .int _ => by unfold sz; omega
 | .str _ => by unfold sz; omega
 | .lst => by unfold sz; omega
 | .dic => by unfold sz; omega
theorem Ze:∀ (a b:List T),szL (a ++ b) = szL a + szL b
 | [],b => by show szL b = szL [] + szL b; unfold szL; omega
 | t :: a,b => by
   show sz t + szL (a ++ b) = szL (t :: a) + szL b
   rw [Ze a b,szL]
   omega
theorem xq (k:Str) (ps:List T):sz (.tup [.str k,.tup ps]) = 3 + szL ps := by
 simp only [sz,szL]
 omega
def bar:Str := "|"
def dash:Str := "-"
def isK (k:Str):Prop := k = bar \/ k = dash
def HasK (t:T) (k:Str):Prop := ∃ q,t = .tup [.str k,q]
mutual
inductive Good:T -> List Int -> Prop where
 | leaf (i:Int):Good (.int i) [i]
 | node {k:Str} {ps:List T} {nss:List (List Int)} (hk:isK k) (h2:2 <= ps.length) (hn:∀ p ∈ ps,¬ HasK p k) (h:zG ps nss):Good (.tup [.str k,.tup ps]) nss.flatten
inductive zG:List T -> List (List Int) -> Prop where
 | nil:zG [] []
 | cons {t:T} {ns:List Int} {ts:List T} {nss:List (List Int)} (h:Good t ns) (r:zG ts nss):zG (t :: ts) (ns :: nss)
end
theorem zG.app:∀ {a b:List T} {x y:List (List Int)},zG a x -> zG b y -> zG (a ++ b) (x ++ y)
 | _,_,_,_,.nil,s => s
 | _,_,_,_,.cons h r,s => .cons h (zG.app r s)
theorem zG.split:∀ {a b:List T} {z:List (List Int)},zG (a ++ b) z -> ∃ x y,z = x ++ y /\ zG a x /\ zG b y
 | [],b,z,h => ⟨[],z,rfl,.nil,h⟩
 | t :: a,b,_,.cons h r => by
   obtain ⟨x,y,e,h1,h2⟩ := zG.split (a := a) (b := b) r
   exact ⟨_ :: x,y,by rw [e]; rfl,.cons h h1,h2⟩
theorem zG.one {t:T} {z:List (List Int)} (h:zG [t] z):∃ ns,z = [ns] /\ Good t ns := by
 cases h with
 | cons h r =>
   cases r
   exact ⟨_,rfl,h⟩
theorem zG.len:∀ {a:List T} {x:List (List Int)},zG a x -> x.length = a.length
 | _,_,.nil => rfl
 | _,_,.cons _ r => by rw [List.length_cons,List.length_cons,r.len]
mutual
theorem Good.ne:∀ {t:T} {ns:List Int},Good t ns -> 0 < ns.length
 | _,_,.leaf i => Nat.succ_pos _
 | _,_,.node (ps := ps) (nss := nss) hk h2 hn h => Nat.lt_of_lt_of_le (by omega) (zG.le h)
theorem zG.le:∀ {ts:List T} {nss:List (List Int)},zG ts nss -> ts.length <= nss.flatten.length
 | _,_,.nil => Nat.le_refl _
 | _,_,.cons h r => by
   rw [List.flatten_cons,List.length_append,List.length_cons]
   have := h.ne
   have := zG.le r
   omega
end
mutual
theorem Good.uniq:∀ {t:T} {a b:List Int},Good t a -> Good t b -> a = b
 | _,_,_,.leaf i,h' => by cases h'; rfl
 | _,_,_,.node _ _ _ h,h' => by
   cases h' with
   | node _ _ _ h2 => rw [zG.uniq h h2]
theorem zG.uniq:∀ {t:List T} {a b:List (List Int)},zG t a -> zG t b -> a = b
 | _,_,_,.nil,h' => by cases h'; rfl
 | _,_,_,.cons h r,h' => by
   cases h' with
   | cons h2 r2 => rw [Good.uniq h h2,zG.uniq r r2]
end
structure Rel (t:T) (ahead:List T) (ns:List Int):Prop where
 fw:∀ x,Good t x -> ∃ z,zG ahead z /\ x.Perm (ns ++ z.flatten)
 bw:∀ z,zG ahead z -> ∃ x,Good t x /\ x.Perm (ns ++ z.flatten)
theorem Rel.start (t:T):Rel t [t] [] :=
 ⟨fun x h => ⟨[x],.cons h .nil,by simp⟩,fun z h => by
   obtain ⟨ns,rfl,h2⟩ := h.one
   exact ⟨ns,h2,by simp⟩⟩
theorem Rel.leaf {t:T} {a:List T} {ns:List Int} {i:Int} (R:Rel t (a ++ [.int i]) ns):Rel t a (ns ++ [i]) := by
 refine ⟨fun x h => ?_,fun z h => ?_⟩
 · obtain ⟨z,hz,p⟩ := R.fw x h
   obtain ⟨u,v,rfl,h1,h2⟩ := hz.split
   obtain ⟨m,rfl,h3⟩ := h2.one
   cases h3
   refine ⟨u,h1,p.trans ?_⟩
   rw [List.flatten_append,List.append_assoc]
   refine List.Perm.append_left ns ?_
   show (u.flatten ++ ([i] ++ [])).Perm ([i] ++ u.flatten)
   rw [List.append_nil]
   exact List.perm_append_comm
 · obtain ⟨x,h1,p⟩ := R.bw (z ++ [[i]]) (h.app (.cons (.leaf i) .nil))
   refine ⟨x,h1,p.trans ?_⟩
   rw [List.flatten_append,List.append_assoc]
   refine List.Perm.append_left ns ?_
   show (z.flatten ++ ([i] ++ [])).Perm ([i] ++ z.flatten)
   rw [List.append_nil]
   exact List.perm_append_comm
theorem Rel.node {t:T} {a ps:List T} {ns:List Int} {k:Str} (R:Rel t (a ++ [.tup [.str k,.tup ps]]) ns) (hk:isK k) (h2:2 <= ps.length) (hn:∀ p ∈ ps,¬ HasK p k):Rel t (a ++ ps) ns := by
 refine ⟨fun x h => ?_,fun z h => ?_⟩
 · obtain ⟨z,hz,p⟩ := R.fw x h
   obtain ⟨u,v,rfl,h1,h3⟩ := hz.split
   obtain ⟨m,rfl,h4⟩ := h3.one
   cases h4 with
   | node _ _ _ h5 => exact ⟨_,h1.app h5,by simpa using p⟩
 · obtain ⟨u,v,rfl,h1,h3⟩ := h.split
   obtain ⟨x,hx,p⟩ := R.bw (u ++ [v.flatten]) (h1.app (.cons (.node hk h2 hn h3) .nil))
   exact ⟨x,hx,by simpa using p⟩
theorem Rel.none {t p:T} {a:List T} {ns:List Int} (R:Rel t (a ++ [p]) ns) (hp:∀ m,¬ Good p m):∀ x,¬ Good t x := fun x h => by
 obtain ⟨z,hz,_⟩ := R.fw x h
 obtain ⟨u,v,rfl,h1,h3⟩ := hz.split
 obtain ⟨m,_,h4⟩ := h3.one
 exact hp m h4
theorem Rel.many {t:T} {a:List T} {ns:List Int} (R:Rel t a ns):∀ x,Good t x -> ns.length + a.length <= x.length := fun x h => by
 obtain ⟨z,hz,p⟩ := R.fw x h
 rw [p.length_eq,List.length_append]
 have := hz.le
 omega
theorem Rel.done {t:T} {ns:List Int} (R:Rel t [] ns):∃ x,Good t x /\ x.Perm ns := by
 obtain ⟨x,h,p⟩ := R.bw [] .nil
 exact ⟨x,h,by simpa using p⟩
def up (n:Nat):List Int := (List.range n).map fun i:Nat => (i:Int)
def z4 (t:T):Prop := ∃ x,Good t x /\ x.length <= 24 /\ x.Perm (up x.length)
theorem wI (n:Nat):(up n).length = n := by unfold up; rw [List.length_map,List.length_range]
theorem ZR (n:Nat):(up n).Pairwise (· <= ·) := by
 unfold up
 rw [List.pairwise_map]
 exact List.pairwise_lt_range.imp fun h => by omega
theorem YQ (n:Nat):(up n).Nodup := by
 unfold up
 rw [List.nodup_iff_pairwise_ne,List.pairwise_map]
 exact List.pairwise_lt_range.imp fun h => by omega
theorem W7 {a b:List Int} (p:a.Perm b) (ha:a.Pairwise (· <= ·)) (hb:b.Pairwise (· <= ·)):a = b := p.eq_of_pairwise (fun x y _ _ h1 h2 => Int.le_antisymm h1 h2) ha hb
def Tells (t:T) (r:List Int):Prop := (∃ x,Good t x /\ x.length <= 24 /\ r.Perm x) \/ (r = [] /\ ∀ x,Good t x -> 24 < x.length)
theorem Tells.tree {t:T} {r ms:List Int} (h:Tells t r) (p:ms.Perm r) (s:ms.Pairwise (· <= ·)):(0 < r.length /\ ms = up r.length) ↔ z4 t := by
 rcases h with ⟨x,g,l,q⟩ | ⟨e,no⟩
 · constructor
   · rintro ⟨_,e⟩
     refine ⟨x,g,l,?_⟩
     rw [<- q.length_eq,<- e]
     exact (p.trans q).symm
   · rintro ⟨y,gy,ly,py⟩
     have l0 := g.ne
     refine ⟨by rw [q.length_eq]; exact l0,?_⟩
     have e:y = x := Good.uniq gy g
     subst e
     refine W7 (p.trans (q.trans ?_)) s (ZR _)
     rw [q.length_eq]
     exact py
 · subst e
   constructor
   · rintro ⟨h,_⟩
     exact absurd h (Nat.lt_irrefl _)
   · rintro ⟨y,gy,ly,_⟩
     have := no y gy
     omega
end Tre
namespace PySem
open AutoSeq1
set_option maxRecDepth 100000 in
theorem qA (l:Addr) (items:Array Value) (n:Nat) (b:Addr) (items2:Array Value) (n2:Nat) (dd:Option Addr) (sl:Array (Option Value)) (hs0:¬(!items.isEmpty && Builtin.List.listTooLong (items.size + items2.size)) = true) (hs1:items.size <= sizeLine) (hs2:items.size + items2.size <= sizeLine + 1) :
   Meets (Builtin.«list.extend» ⟨[.ref l,.ref b],[]⟩) (fun _ R s => s.heap.get? l = some { cls := .type "list",dict := none,data := .seq items n,slots := #[] } /\ s.heap.get? b = some { cls := .type "tuple",dict := dd,data := .seq items2 n2,slots := sl } /\ R (.ok (.ret Value.none)) { s with heap := s.heap.update l (Obj.mapSeq fun x => x ++ items2),toks := s.toks }) :=
 .of_wp fun prog w A R s h => by
   obtain ⟨hp,g,d,tk,os⟩ := s; obtain ⟨hl,hb,h⟩ := h; have f1 := idx_int; have f2 := sub_tuple_tuple; have f3 := sub_list_list; have f4 := sub_tuple_list; have f5 := sub_list_tuple;
   have hz':(items ++ items2).size <= sizeLine + 1 := by rw [Array.size_append]; exact hs2
   wp_walk using (wpAny_updateSeq hl rfl (hz := hs1) (_hz' := hz')),wpAny_loadPart' hl,wpAny_loadPart' hb; exact ⟨_,rfl,h⟩
end PySem
namespace L2
open PySem PySem.Spec PyProof.Rows
section
variable {X:Cx}
theorem X4:MtM X "list.extend" (fun x vs H Q => ∃ l b xs zs,x = .ref l /\ vs = [.ref b] /\ H l = some (.lst xs) /\ SqT X.K H b zs /\ xs.length + zs.length <= sizeLine /\ Q .non (upd H l (.lst (xs ++ zs)))) := by
 intro pins s σ H x vs v us Q I rx rv h
 obtain ⟨l,b,xs,zs,rfl,rfl,hH,hB,hz,q⟩ := h
 cases rx
 obtain ⟨u,rfl,ru⟩ := rv.one
 cases ru
 obtain ⟨z,its,n,r,hl,e⟩ := I.lstM hH
 obtain ⟨its2,r2,⟨⟨cls,dd,data,sl⟩,e2,hc,n2,hd⟩,hz2⟩ := I.tuple hB
 simp only at hc hd
 subst hc hd
 have hl2 := r2.length
 have hsz:its.toArray.size + its2.toArray.size <= sizeLine := by rw [List.size_toArray,List.size_toArray]; omega
 have hlong:¬ (!its.toArray.isEmpty && Builtin.List.listTooLong (its.toArray.size + its2.toArray.size)) = true := by
   rw [jn hsz,Bool.and_false]
   exact Bool.false_ne_true
 refine call_meets F.slot_list_extend ⟨_,e,rfl⟩ F.entry_list_extend (F.args_list_extend_2 _ _)
   (qA l its.toArray n b its2.toArray n2 dd sl hlong (by rw [List.size_toArray]; omega) (by omega)) ⟨e,e2,?_⟩
 refine ⟨.non,_,I.lset (its' := its ++ its2) hH e (by simp) (r.append r2) ?_,rfl,q⟩
 rw [List.length_append]
 omega
theorem ZS:∀ {ns:List Int} {us:List Value},Vals (ns.map V.int) us -> IntsAre us ns
 | [],_,.nil => .nil
 | n :: ns,_,.cons ⟨t,e⟩ r => by
   subst e
   exact .cons n t (ZS r)
theorem jS:∀ {ns:List Int} {us:List Value},IntsAre us ns -> Vals (ns.map V.int) us
 | _,_,.nil => .nil
 | _,_,.cons n t r => .cons ⟨t,rfl⟩ (jS r)
theorem X5:yx X (.builtin "sorted") (fun xs H Q => ∃ (a:Addr) (ns:List Int),xs = [.ref a] /\ SqL X.K H a (ns.map V.int) /\ ns.length < 64 /\ ∀ (l:Addr) (ms:List Int),H l = none -> ms.Perm ns -> ms.Pairwise (· <= ·) -> Q (.ref l) (upd H l (.lst (ms.map V.int)))) := by
 intro pins s σ H xs us Q I r h
 obtain ⟨a,ns,rfl,hq,h64,q⟩ := h
 obtain ⟨u,rfl,ru⟩ := vals1 r
 cases ru
 obtain ⟨its,rv,tp,hz⟩ := I.list hq
 have hl := rv.length
 rw [List.length_map] at hl
 refine sorted_ints tp.isList (ZS rv) (by omega) fun out ms hI pm st => ?_
 obtain ⟨e,he⟩ := sortedAll_at s.heap its out
 have ln:(ms.map V.int).length <= sizeLine := by rw [List.length_map,pm.length_eq]; exact Nat.le_trans (Nat.le_of_lt h64) (by decide)
 refine ⟨.ref (s.heap.objs.size + 1),_,I.laid (t' := s.toks) (o := .lst (ms.map V.int)) (fun b u e => sortedAll_old e) (Nat.le_succ _) ⟨ln,out.toList,e,jS hI,?_⟩,rfl,q _ ms (I.hok.fresh (Nat.le_succ _)) pm st⟩
 rw [he]
end
def ItR (K:PySem.W.Frag) (a:Addr) (n:Nat):It :=
 ⟨fun i H => i < n /\ ∃ xs,SqL K H a xs /\ xs.length = n,fun i H x H' => H' = H /\ ∀ xs,SqL K H a xs -> xs[n - 1 - i]? = some x,fun i H => n <= i⟩
theorem Q7 {P:Program} {w:World} {K:PySem.W.Frag} {tg:Expr} (a it:Addr) (n:Nat):Turn P w K tg (ItR K a n) [it] it (fun i h => h.IsRevIter it a ((n:Int) - 1 - i) /\ i <= n) where
 mem := by simp
 obj := fun i h st b hb => by
   have e:b = it := by simpa using hb
   subst e
   obtain ⟨⟨o,e,c,d⟩,_⟩ := st
   exact ⟨o,e,fun v z => by rw [d] at z; cases z⟩
 keep := fun i h h' st k => ⟨st.1.at fun o e => k it (by simp) o e,st.2⟩
 item := by
   intro X hP hw hK hc i pins s σ H E I hf st hg
   subst hP hw hK
   obtain ⟨hi,xs,hq,hx⟩ := hg
   obtain ⟨its,rv,p,hz⟩ := I.list hq
   have e1:xs[n - 1 - i]? = some (xs[n - 1 - i]'(by omega)) := List.getElem?_eq_getElem (by omega)
   obtain ⟨u,hu,ru⟩ := rv.get e1
   obtain ⟨f0,f1,f2,f3,f4,f5⟩ := hf it (by simp)
   have st1:s.heap.IsRevIter it a ((n - 1 - i:Nat):Int) := by
     have := st.1
     rwa [show (n:Int) - 1 - i = ((n - 1 - i:Nat):Int) by omega] at this
   refine wpAny_pyNext_rev_item st1 p.isList (x := u) (by simpa using hu) fun h' st' sb => ?_
   have I1:Inv X pins σ H { s with heap := h' } := I.turned (t' := s.toks) (fun b o hb e => (sb.2 b hb).trans e) f0 f1 f3 f4 f5
   have st2:h'.IsRevIter it a ((n:Int) - 1 - ((i + 1:Nat):Int)) := by
     rwa [show ((n - 1 - i:Nat):Int) - 1 = (n:Int) - 1 - ((i + 1:Nat):Int) by omega] at st'
   obtain ⟨o,e,c,d⟩ := id st2
   exact ⟨u,rfl,jE (s := { s with heap := h' }) e c d (by decide) ⟨_,H,I1,ru,⟨rfl,fun ys hy => by rw [I.list_inj hy hq]; exact e1⟩,⟨st2,by omega⟩,fun b hb => (hf b hb).1⟩⟩
 done := by
   intro X hP hw hK hc i pins s σ H E I hf st hg
   subst hP hw hK
   have hg:n <= i := hg
   obtain ⟨f0,f1,f2,f3,f4,f5⟩ := hf it (by simp)
   have st1:s.heap.IsRevIter it a (-1) := by
     have := st.1
     rwa [show (n:Int) - 1 - i = -1 by have := st.2; omega] at this
   exact wpAny_pyNext_rev_end (I.ok.hd hc) st1 fun h' eb => ⟨rfl,I.turned (t' := s.toks) (fun b o hb e => eb b o hb e) f0 f1 f3 f4 f5⟩
 self := fun _ _ _ _ _ st h => wpAny_pyIter_revIter st.1 h
def iRev (K:PySem.W.Frag) (ta:TA):TI := fun σ H R => ta σ H fun vs H1 => ∃ a xs,vs = [.ref a] /\ SqL K H1 a xs /\ R (ItR K a xs.length) H1
theorem zbh {X:Cx} {tg l:Expr} {ta:TA} {p pos:Pos} (hg:Gl X "reversed") (hm:X.mg "reversed" = none) (ha:PA X [l] ta) (hs:starEach [l] X.env = [(false,eval l X.env)] := by rfl) :
   PI X tg (.Call (.Name "reversed" p) [l] [] pos) (iRev X.K ta) := by
 intro pins s σ H R I h
 refine Call_ (yQ I hg hm boot_reversed (PyProof.Rows.callWith_type1 (thn (ha pos pins s σ H _ I h) fun us s1 ⟨vs,H1,I1,r1,q1⟩ => ?_) hs rfl))
 obtain ⟨a,xs,e,hq,q⟩ := q1
 subst e
 cases r1 with
 | cons r rr =>
   cases rr
   cases r
   obtain ⟨its,rv,tp,hz⟩ := I1.list hq
   have hl := rv.length
   refine call_reversed_list tp.isList ?_
   have e0:((its.toArray.size:Nat):Int) - 1 = (xs.length:Int) - 1 - ((0:Nat):Int) := by rw [List.size_toArray]; omega
   have st0:(s1.heap.push (revObj a (((its.toArray.size:Nat):Int) - 1))).IsRevIter s1.heap.objs.size a ((xs.length:Int) - 1 - ((0:Nat):Int)) := ⟨_,Heap.get?_push_size _ rfl,rfl,by rw [e0]; rfl⟩
   refine wpAny_pyIter_revIter st0 ?_
   refine ⟨s1.heap.objs.size,[s1.heap.objs.size],_,_,H1,rfl,I1.kept (t' := s1.toks) fun b o e => Heap.get?_push_of_some _ e,Q7 a _ xs.length,⟨st0,Nat.zero_le _⟩,fun b hb => ?_,q⟩
   have e:b = s1.heap.objs.size := by simpa using hb
   subst e
   exact I1.fpOk (Nat.le_refl _) (I1.hok.fresh (Nat.le_refl _))
end L2
namespace L2
open PySem PySem.Spec PyProof.Rows
section
variable {X:Cx}
def tLR3 (ta:TA):TE := fun σ H Q => ta σ H fun vs H1 => ∃ n:Nat,vs = [.int n] /\ n <= 1000000 /\ ∀ l,H1 l = none -> Q (.ref l) (upd H1 l (.lst ((List.range n).map fun i:Nat => V.int i)))
theorem X6 {n:Nat} {its:Array Value} (h:ItemsOf (fun i v => ∃ t,v = Value.int (0 + (i:Int) * 1) t) its n):Vals ((List.range n).map fun i:Nat => V.int i) its.toList := by
 obtain ⟨h1,h2⟩ := h
 have:∀ (us:List Value) (k:Nat),(∀ j v,us[j]? = some v -> ∃ t,v = Value.int ((k + j:Nat):Int) t) -> Vals ((List.range us.length).map fun i:Nat => V.int ((k + i:Nat):Int)) us := by
   intro us
   induction us with
   | nil => intro k _; exact .nil
   | cons u us ih =>
     intro k h
     rw [List.length_cons,List.range_succ_eq_map,List.map_cons,List.map_map]
     refine .cons ?_ ?_
     · obtain ⟨t,rfl⟩ := h 0 u rfl
       exact ⟨t,rfl⟩
     · have := ih (k + 1) fun j v e => by
         obtain ⟨t,rfl⟩ := h (j + 1) v (by simpa using e)
         exact ⟨t,by rw [show k + 1 + j = k + (j + 1) by omega]⟩
       have e:((fun i:Nat => V.int ((k + i:Nat):Int)) ∘ Nat.succ) = fun i:Nat => V.int ((k + 1 + i:Nat):Int) := by
         funext i
         show V.int ((k + (i + 1):Nat):Int) = V.int ((k + 1 + i:Nat):Int)
         rw [show k + (i + 1) = k + 1 + i by omega]
       rw [e]
       exact this
 have := this its.toList 0 fun j v e => by
   obtain ⟨t,rfl⟩ := h2 j v (by rw [<- Array.getElem?_toList]; exact e)
   exact ⟨t,by simp⟩
 rw [Array.length_toList,h1] at this
 simpa using this
theorem qC {a:Expr} {ta:TA} {p p2 pos pos2:Pos} (hc:X.calm = true) (hgl:Gl X "list") (hml:X.mg "list" = none) (hg:Gl X "range") (hm:X.mg "range" = none) (ha:PA X [a] ta) (hs:starEach [a] X.env = [(false,eval a X.env)] := by rfl)
   (hs2:starEach [.Call (.Name "range" p2) [a] [] pos2] X.env = [(false,eval (.Call (.Name "range" p2) [a] [] pos2) X.env)] := by rfl):PE X (.Call (.Name "list" p) [.Call (.Name "range" p2) [a] [] pos2] [] pos) (tLR3 ta) := by
 intro pins s σ H Q I h
 refine wpAny_Call_Name_kw (yQ I hgl hml boot_list (PyProof.Rows.callWith_type1 ?_ hs2 rfl))
 rw [hs2]
 refine Calls.spliced_cons (Call_ (yQ I hg hm boot_range (PyProof.Rows.callWith_type1 (thn (ha pos2 pins s σ H _ I h) fun us s1 ⟨vs,H1,I1,r1,q1⟩ => ?_) hs rfl)))
 obtain ⟨n,e,hn,q⟩ := q1
 subst e
 obtain ⟨u,rfl,t,rfl⟩ := vals1 r1
 refine call_range_1 (Calls.spliced_nil ?_)
 refine call_list_range (n := n) (I1.ok.hd hc) (IsRange.new ..) (small_one (by decide) (by decide) (by omega) (by omega)) (by rw [rangeSize_one]; split <;> omega) (by omega) fun h' tk acc c' kp hl it => ?_
 have I2:Inv X pins σ H1 { s1 with heap := s1.heap.push { cls := .type "range",data := .fields #[.int 0 s1.toks,.int n t,.int 1 (s1.toks + 1)] },toks := s1.toks + 1 + 1 } := I1.kept fun b o e => Heap.get?_push_of_some _ e
 refine ⟨.ref _,_,I2.laid (t' := tk) (o := .lst ((List.range n).map fun i:Nat => V.int i)) kp (Nat.le_refl _) ⟨by rw [List.length_map,List.length_range]; exact Nat.le_trans hn (by decide),acc.toList,c',X6 it,by simpa using hl⟩,rfl,q _ (I2.hok.fresh (Nat.le_refl _))⟩
end
end L2
namespace JI
open PySem L2 Tre PySem.W
mutual
inductive At (H:Hp):V -> T -> Prop where
 | non:At H .non .non
 | bl (b:Bool):At H (.bl b) (.bl b)
 | int (i:Int):At H (.int i) (.int i)
 | str (x:Str):At H (.str x) (.str x)
 | tup {a:Addr} {vs:List V} {ts:List T} (e:H a = some (.tup vs)) (h:AtL H vs ts):At H (.ref a) (.tup ts)
 | lst {a:Addr} {vs:List V} (e:H a = some (.lst vs)):At H (.ref a) .lst
 | dic {a:Addr} {kvs:List (Key × V)} (e:H a = some (.dK kvs)):At H (.ref a) .dic
inductive AtL (H:Hp):List V -> List T -> Prop where
 | nil:AtL H [] []
 | cons {v:V} {t:T} {vs:List V} {ts:List T} (h:At H v t) (r:AtL H vs ts):AtL H (v :: vs) (t :: ts)
end
mutual
theorem At.same {H H':Hp} (S:Same H H'):∀ {v:V} {t:T},At H v t -> At H' v t
 | _,_,.non => .non
 | _,_,.bl b => .bl b
 | _,_,.int i => .int i
 | _,_,.str x => .str x
 | _,_,.tup e h => .tup (S _ _ e) (AtL.same S h)
 | _,_,.lst e => .lst (S _ _ e)
 | _,_,.dic e => .dic (S _ _ e)
theorem AtL.same {H H':Hp} (S:Same H H'):∀ {vs:List V} {ts:List T},AtL H vs ts -> AtL H' vs ts
 | _,_,.nil => .nil
 | _,_,.cons h r => .cons (At.same S h) (AtL.same S r)
end
theorem AtL.len {H:Hp}:∀ {vs:List V} {ts:List T},AtL H vs ts -> vs.length = ts.length
 | _,_,.nil => rfl
 | _,_,.cons _ r => by rw [List.length_cons,List.length_cons,r.len]
theorem AtL.get {H:Hp}:∀ {vs:List V} {ts:List T} {i:Nat} {v:V},AtL H vs ts -> vs[i]? = some v -> ∃ t,ts[i]? = some t /\ At H v t
 | _,_,_,_,.nil,e => by simp at e
 | _,_,0,_,.cons h _,e => by simp at e; subst e; exact ⟨_,rfl,h⟩
 | _,_,i + 1,v,.cons _ r,e => by
   obtain ⟨t,h1,h2⟩ := AtL.get (i := i) (v := v) r (by simpa using e)
   exact ⟨t,by simpa using h1,h2⟩
theorem AtL.app {H:Hp}:∀ {vs us:List V} {ts ss:List T},AtL H vs ts -> AtL H us ss -> AtL H (vs ++ us) (ts ++ ss)
 | _,_,_,_,.nil,s => s
 | _,_,_,_,.cons h r,s => .cons h (AtL.app r s)
theorem AtL.snoc {H:Hp}:∀ {ts:List T} {t:T} {vs:List V},AtL H vs (ts ++ [t]) -> ∃ us v,vs = us ++ [v] /\ AtL H us ts /\ At H v t
 | [],t,_,.cons h .nil => ⟨[],_,rfl,.nil,h⟩
 | b :: ts,t,_,.cons h r => by
   obtain ⟨us,v,e,h1,h2⟩ := AtL.snoc (ts := ts) r
   exact ⟨_ :: us,v,by rw [e]; rfl,.cons h h1,h2⟩
def tyT:T -> Value
 | .non => .type "NoneType"
 | .bl _ => .type "bool"
 | .int _ => .type "int"
 | .str _ => .type "str"
 | .tup _ => .type "tuple"
 | .lst => .type "list"
 | .dic => .type "dict"
theorem At.ty {K:PySem.W.Frag} {H:Hp} {v:V} {t:T} (h:At H v t):TyX K H v (tyT t) := by
 cases h with
 | non => exact .of .non
 | bl b => exact .of (.bl b)
 | int i => exact .of (.int i)
 | str x => exact .of (.str x)
 | tup e _ => exact .of (.tup e)
 | lst e => exact .of (.lst e)
 | dic e => exact .of (.dK e)
def isI:T -> Bool
 | .int _ => true
 | _ => false
def isIB:T -> Bool
 | .int _ => true
 | .bl _ => true
 | _ => false
def isBl:T -> Bool
 | .bl _ => true
 | _ => false
def isS:T -> Bool
 | .str _ => true
 | _ => false
def isTp:T -> Bool
 | .tup _ => true
 | _ => false
structure Nt (K:PySem.W.Frag) (mg:Str -> Option Value) (kA:Addr):Prop where
 gKIND:GI mg "KIND" 0
 gPARTS:GI mg "PARTS" 1
 gMOST_BOXES:GI mg "MOST_BOXES" 24
 gKINDS:mg "KINDS" = some (.ref kA)
 kk:∀ H,SqT K H kA [.str bar,.str dash]
 ti:mg "isinstance" = none
 tint:mg "int" = none
 tbool:mg "bool" = none
 tstr:mg "str" = none
 ttup:mg "tuple" = none
 tlist:mg "list" = none
 tl:mg "len" = none
 tany:mg "any" = none
 ts:mg "sorted" = none
 tr:mg "range" = none
 kI:∀ t,kitOne K (tyT t) (.type "int") = some (isIB t)
 kB:∀ t,kitOne K (tyT t) (.type "bool") = some (isBl t)
 kS:∀ t,kitOne K (tyT t) (.type "str") = some (isS t)
 kT:∀ t,kitOne K (tyT t) (.type "tuple") = some (isTp t)
def isKb (k:Str):Bool := decide (k = bar) || decide (k = dash)
theorem wZ {k:Str}:isKb k = true ↔ isK k := by
 unfold isKb isK
 rw [Bool.or_eq_true,decide_eq_true_eq,decide_eq_true_eq]
def hasK:T -> Bool
 | .tup [.str k,_] => isKb k
 | _ => false
def yZ (p:T) (k:Str):Bool := match p with
 | .tup [.str j,_] => isKb j && decide (j = k)
 | _ => false
def isB:T -> Bool
 | .tup [.str k,.tup ps] => isKb k && (decide (2 <= ps.length) && !(ps.any fun p => yZ p k))
 | _ => false
theorem ZT {p:T} {k:Str} (hk:isK k):yZ p k = true ↔ HasK p k := by
 constructor
 · intro h
   unfold yZ at h
   split at h
   · rename_i j q
     rw [Bool.and_eq_true,decide_eq_true_eq] at h
     exact ⟨q,by rw [h.2]⟩
   · cases h
 · rintro ⟨q,rfl⟩
   show (isKb k && decide (k = k)) = true
   rw [wZ.mpr hk,decide_eq_true rfl]
   rfl
theorem Zf {t:T}:isB t = true ↔ ∃ k ps,t = .tup [.str k,.tup ps] /\ isK k /\ 2 <= ps.length /\ ∀ p ∈ ps,¬ HasK p k := by
 constructor
 · intro h
   unfold isB at h
   split at h
   · rename_i k ps
     rw [Bool.and_eq_true,Bool.and_eq_true,decide_eq_true_eq,Bool.not_eq_true',List.any_eq_false] at h
     have hk := wZ.mp h.1
     exact ⟨k,ps,rfl,hk,h.2.1,fun p hp z => h.2.2 p hp ((ZT hk).mpr z)⟩
   · cases h
 · rintro ⟨k,ps,rfl,hk,h2,hn⟩
   show (isKb k && (decide (2 <= ps.length) && !(ps.any fun p => yZ p k))) = true
   rw [wZ.mpr hk,decide_eq_true h2,Bool.true_and,Bool.true_and,Bool.not_eq_true',List.any_eq_false]
   exact fun p hp z => hn p hp ((ZT hk).mp z)
theorem zah {t:T} (h1:isI t = false) (h2:isB t = false):∀ m,¬ Good t m := fun m g => by
 cases g with
 | leaf i => cases h1
 | node hk h3 hn _ =>
   have := Zf.mpr ⟨_,_,rfl,hk,h3,hn⟩
   rw [h2] at this
   cases this
def xE:Sp := fun vs H Q _ => ∃ (x:V) (t:T),vs = [x] /\ At H x t /\ Q (.bl (isI t)) H
def X7:Sp := fun vs H Q _ => ∃ (x:V) (t:T),vs = [x] /\ At H x t /\ Q (.bl (hasK t)) H
def spBr:Sp := fun vs H Q _ => ∃ (x:V) (t:T),vs = [x] /\ At H x t /\ (∀ a ps,t = .tup [a,.tup ps] -> ps.length <= 100000) /\ ∀ H',Same H H' -> Q (.bl (isB t)) H'
section
variable {P:Program} {w:World} {K:PySem.W.Frag} {mg:Str -> Option Value} {base:Heap} {kA:Addr}
theorem zai:zu ["thing"] ["thing"] (ze wC) := ⟨rfl,rfl,rfl,by decide +kernel,rfl,by decide +kernel,by decide +kernel⟩
theorem Q8 {f:Addr} {fd:FuncData} (F:Fun K "is_whole" "is_whole" wC f fd) (Z:Nt K mg kA):FnOk P w K mg base CX0 1 f fd ["thing"] xE := by
 obtain ⟨gKIND,gPARTS,gMOST_BOXES,gKINDS,kk,ti,tint,tbool,tstr,ttup,tlist,tl,tany,ts,tr,kI,kB,kS,kT⟩ := Z
 refine F.ok zai (fun vs H Q E h => ?_) (fun cdv A outer s H vs Q E hr h => ?_)
 · obtain ⟨x,t,rfl,_⟩ := h
   rfl
 · obtain ⟨x,t,rfl,hA,q⟩ := h
   refine ⟨_,(zg (zn (xt (zi yh (by rfl) ti PyProof.Rows.boot_isinstance (za (pv 0) (za (yw rfl tint PyProof.Rows.boot_int) zb))) (xW (Wr (zi yh (by rfl) ti PyProof.Rows.boot_isinstance (za (pv 0) (za (yw rfl tbool PyProof.Rows.boot_bool) zb)))))))),?_⟩
   refine ⟨_,rfl,_,_,_,_,rfl,rfl,hA.ty,kI t,_,rfl,?_⟩
   have e:isI t = (isIB t && !isBl t) := by cases t <;> rfl
   rw [e] at q
   cases h1:isIB t with
   | false =>
     rw [h1] at q
     exact iteF q
   | true =>
     rw [h1] at q
     exact iteT ⟨_,rfl,_,_,_,_,rfl,rfl,hA.ty,kB t,_,rfl,q⟩
theorem zb3:zu ["thing"] ["thing"] (ze sHas) := ⟨rfl,rfl,rfl,by decide +kernel,rfl,by decide +kernel,by decide +kernel⟩
theorem Q9 (k:Str):inV (.str k) [.str bar,.str dash] = isKb k := by
 unfold isKb
 show (eqV (.str bar) (.str k) || (eqV (.str dash) (.str k) || false)) = _
 rw [Bool.or_false,Bool.eq_iff_iff,Bool.or_eq_true,Bool.or_eq_true,decide_eq_true_eq,decide_eq_true_eq]
 have e:∀ a b:Str,eqV (.str a) (.str b) = true ↔ b = a := fun a b => by
   show (a == b) = true ↔ b = a
   rw [beq_iff_eq]
   exact eq_comm
 rw [e,e]
theorem zbi {f:Addr} {fd:FuncData} (F:Fun K "has_kind" "has_kind" sHas f fd) (Z:Nt K mg kA):FnOk P w K mg base CX0 1 f fd ["thing"] X7 := by
 obtain ⟨gKIND,gPARTS,gMOST_BOXES,gKINDS,kk,ti,tint,tbool,tstr,ttup,tlist,tl,tany,ts,tr,kI,kB,kS,kT⟩ := Z
 refine F.ok zb3 (fun vs H Q E h => ?_) (fun cdv A outer s H vs Q E hr h => ?_)
 · obtain ⟨x,t,rfl,_⟩ := h
   rfl
 · obtain ⟨x,t,rfl,hA,q⟩ := h
   refine ⟨_,(zg (zn (xt (zi yh (by rfl) ti PyProof.Rows.boot_isinstance (za (pv 0) (za (yw rfl ttup PyProof.Rows.boot_tuple) zb))) (xt (yJ xu (zi zm (by rfl) tl PySem.boot_len (za (pv 0) zb)) zh (zE _)) (xt (zi yh (by rfl) ti PyProof.Rows.boot_isinstance (za (zk zN (pv 0) (zJ rfl gKIND) (fun _ _ => rfl)) (za (yw rfl tstr PyProof.Rows.boot_str) zb))) (xW (yJ WE (zk zN (pv 0) (zJ rfl gKIND) (fun _ _ => rfl)) (zba rfl gKINDS) rfl))))))),?_⟩
   refine ⟨_,rfl,_,_,_,_,rfl,rfl,hA.ty,kT t,_,rfl,?_⟩
   cases hA with
   | non => exact iteF q
   | bl b => exact iteF q
   | int i => exact iteF q
   | str x => exact iteF q
   | lst e => exact iteF q
   | dic e => exact iteF q
   | @tup a us ss e hL =>
     refine iteT ⟨_,rfl,_,_,rfl,.inr (SqT.of e),rfl,_,rfl,?_⟩
     have ln := hL.len
     have d:decide (V.int ((us.length:Nat):Int) = V.int 2) = decide (us.length = 2) := by
       rw [qI,Bool.eq_iff_iff,beq_iff_eq,decide_eq_true_eq]
       omega
     rw [d]
     by_cases h2:us.length = 2
     · rw [decide_eq_true h2]
       refine iteT ?_
       match us,ss,hL,h2,q with
       | [u0,u1],[s0,s1],.cons h0 (.cons h1 .nil),_,q =>
       refine ⟨_,rfl,_,_,_,_,rfl,rfl,SqT.of e,rfl,_,_,_,_,rfl,rfl,h0.ty,kS s0,_,rfl,?_⟩
       cases h0 with
       | str k =>
         refine iteT ⟨_,rfl,_,_,_,_,rfl,rfl,SqT.of e,rfl,kA,_,rfl,.inr (kk _),rfl,rfl,?_⟩
         rw [Q9]
         exact q
       | non => exact iteF q
       | bl b => exact iteF q
       | int i => exact iteF q
       | lst e => exact iteF q
       | dic e => exact iteF q
       | tup e h => exact iteF q
     · rw [decide_eq_false h2]
       have e0:hasK (.tup ss) = false := by
         unfold hasK
         split
         · rename_i heq
           injection heq with heq
           rw [heq] at ln
           exact absurd ln h2
         · rfl
       rw [e0] at q
       exact iteF q
end
end JI
namespace JI
open PySem L2 Tre PySem.W
inductive Small:T -> Prop where
 | non:Small .non
 | bl (b:Bool):Small (.bl b)
 | int (i:Int):Small (.int i)
 | str (x:Str):Small (.str x)
 | tup {ts:List T} (l:ts.length <= 1000) (h:∀ t ∈ ts,Small t):Small (.tup ts)
 | lst:Small .lst
 | dic:Small .dic
theorem Small.parts {ts:List T} (h:Small (.tup ts)):ts.length <= 1000 /\ ∀ t ∈ ts,Small t := by
 cases h with
 | tup l h => exact ⟨l,h⟩
def Z5:Sp := fun vs H Q _ => ∃ (x:V) (t:T),vs = [x] /\ At H x t /\ Small t /\ ∀ (r:List Int) (l:Addr) (H':Hp),Same H H' -> H l = none -> H' l = some (.lst (r.map V.int)) -> r.length <= 24 -> Tells t r -> Q (.ref l) H'
def YR:Sp := fun vs H Q _ => ∃ (x:V) (t:T),vs = [x] /\ At H x t /\ Small t /\ ∀ (b:Bool) (H':Hp),Same H H' -> (b = true ↔ z4 t) -> Q (.bl b) H'
theorem zaj {K:PySem.W.Frag} {H:Hp} {a c:Addr} {ms ns:List Int} (ha:SqL K H a (ms.map V.int)) (hc:SqL K H c (ns.map V.int)):EqR K H 1 (.ref a) (.ref c) (decide (ms = ns)) := by
 by_cases hl:ms.length = ns.length
 · have fl:∀ (xs:List Int) (j:Nat),j < (xs.map V.int).length -> (xs.map V.int).getD j .non = .int (xs.getD j 0) := fun xs j hj => by
     rw [List.length_map] at hj
     rw [List.getD_eq_getElem?_getD,List.getElem?_map,List.getElem?_eq_getElem hj,List.getD_eq_getElem?_getD,List.getElem?_eq_getElem hj]
     rfl
   have := EqR.lsts (K := K) (H := H) (n := 0) (e := fun j => eqV (.int (ms.getD j 0)) (.int (ns.getD j 0))) ha hc (by rw [List.length_map,List.length_map]; exact hl) fun j hj => by
     rw [fl ms j hj,fl ns j (by rw [List.length_map] at hj ⊢; omega)]
     exact .flat rfl rfl
   have e:(List.range (ms.map V.int).length).all (fun j => eqV (.int (ms.getD j 0)) (.int (ns.getD j 0))) = decide (ms = ns) := by
     rw [Bool.eq_iff_iff,decide_eq_true_eq,List.all_eq_true,List.length_map]
     constructor
     · intro h
       apply List.ext_getElem hl
       intro i h1 h2
       have := h i (List.mem_range.mpr h1)
       have this:(ms.getD i 0 == ns.getD i 0) = true := this
       rw [beq_iff_eq,List.getD_eq_getElem?_getD,List.getD_eq_getElem?_getD,List.getElem?_eq_getElem h1,List.getElem?_eq_getElem h2] at this
       exact this
     · rintro rfl j _
       show (ms.getD j 0 == ms.getD j 0) = true
       rw [beq_iff_eq]
   rw [<- e]
   exact this
 · rw [decide_eq_false (fun z => hl (by rw [z]))]
   exact EqR.lens (n := 0) ha hc (by rw [List.length_map,List.length_map]; exact hl)
theorem js {t:T}:hasK t = true ↔ ∃ k q,t = .tup [.str k,q] /\ isKb k = true := by
 constructor
 · intro h
   unfold hasK at h
   split at h
   · exact ⟨_,_,rfl,h⟩
   · cases h
 · rintro ⟨k,q,rfl,h⟩
   exact h
theorem zbj {t:T} (h:hasK t = false):isB t = false := by
 cases e:isB t with
 | false => rfl
 | true =>
   obtain ⟨k,ps,rfl,hk,_⟩ := Zf.mp e
   have:hasK (.tup [.str k,.tup ps]) = true := js.mpr ⟨k,_,rfl,wZ.mpr hk⟩
   rw [h] at this
   cases this
theorem Ja {p:T} {k:Str} (h:hasK p = false):yZ p k = false := by
 cases e:yZ p k with
 | false => rfl
 | true =>
   unfold yZ at e
   split at e
   · rename_i j q
     rw [Bool.and_eq_true] at e
     have:hasK (.tup [.str j,q]) = true := e.1
     rw [h] at this
     cases this
   · cases e
section
variable {P:Program} {w:World} {K:PySem.W.Frag} {mg:Str -> Option Value} {base:Heap} {kA:Addr}
theorem scBr:zu ["thing","parts"] ["thing"] (ze sBr) := ⟨rfl,rfl,rfl,by decide +kernel,rfl,by decide +kernel,by decide +kernel⟩
theorem zb4 {f fH:Addr} {fd fdH:FuncData} (F:Fun K "is_branch" "is_branch" sBr f fd) (Z:Nt K mg kA) (Hk:Callee P w K mg base CX0 1 "has_kind" fH fdH ["thing"] X7):FnOk P w K mg base CX0 2 f fd ["thing"] spBr := by
 obtain ⟨gKIND,gPARTS,gMOST_BOXES,gKINDS,kk,ti,tint,tbool,tstr,ttup,tlist,tl,tany,ts,tr,kI,kB,kS,kT⟩ := Z
 refine F.ok scBr (fun vs H Q E h => ?_) (fun cdv A outer s H vs Q E hr h => ?_)
 · obtain ⟨x,t,rfl,_⟩ := h
   rfl
 · obtain ⟨x,t,rfl,hA,hn,q⟩ := h
   refine ⟨_,(zd (zO (yB (yl (zj Hk.ok hr rfl Hk.bound Hk.kp Hk.bd .nil zB (za (pv 0) zb))))
     (zg (zn wO))
     zH)
     (zd (zx (i := 1) scBr.nd rfl (Or.inl rfl) (zk zN (pv 0) (zJ rfl gPARTS) (fun _ _ => rfl)))
     (zd (zO (PW.pt (yH (yB (yl (zi yh (by rfl) ti PyProof.Rows.boot_isinstance (za (pv 1) (za (yw rfl ttup PyProof.Rows.boot_tuple) zb))))) (yR (zC xv (zi zm (by rfl) tl PySem.boot_len (za (pv 1) zb)) zh (zE _)))))
     (zg (zn wO))
     zH)
     (zg (zn (Wr (zi (ZD rfl) (by rfl) tany PyProof.Rows.boot_any (za (z9 (Nc := ["part","thing"]) (ix := [none,some 0]) rfl rfl (by exact (wn (pv 1))) (fun _ _ _ _ _ => (zr (i := 0) (by show (["part","thing"]:List Str).Nodup; decide +kernel) rfl (Or.inl rfl))) (fun _ _ _ _ _ => zX) (fun _ _ _ _ _ => (xt (zj Hk.ok hr rfl Hk.bound Hk.kp Hk.bd .nil zB (za (pv 0) zb)) (xW (yJ xu (zk (yV (K := K) rfl) (pv 0) (zJ rfl gKIND) (fun _ _ => rfl)) (zk (yV (K := K) rfl) (pv 1) (zJ rfl gKIND) (fun _ _ => rfl)) (zE _)))))) zb)))))))),?_⟩
   refine ⟨_,rfl,x,t,rfl,hA,_,rfl,?_⟩
   cases hh:hasK t with
   | false =>
     have := q H (Same.refl _)
     rw [zbj hh] at this
     exact iteT this
   | true =>
     obtain ⟨k,qq,rfl,hk⟩ := js.mp hh
     cases hA with
     | @tup a us ss e hL =>
     cases hL with
     | @cons u0 _ _ _ h0 hr =>
     cases h0
     cases hr with
     | @cons u1 _ _ _ hq hr2 =>
     cases hr2
     refine iteF ?_
     refine ⟨_,rfl,_,_,_,_,rfl,rfl,SqT.of e,rfl,?_⟩
     refine ⟨_,rfl,_,_,_,_,rfl,rfl,hq.ty,kT qq,_,rfl,?_⟩
     cases hq with
     | non => exact iteT (iteT (q H (Same.refl _)))
     | bl b => exact iteT (iteT (q H (Same.refl _)))
     | int i => exact iteT (iteT (q H (Same.refl _)))
     | str x => exact iteT (iteT (q H (Same.refl _)))
     | lst e => exact iteT (iteT (q H (Same.refl _)))
     | dic e => exact iteT (iteT (q H (Same.refl _)))
     | @tup b ws ps e2 hP =>
       have ln := hP.len
       have hn:ps.length <= 100000 := hn _ _ rfl
       refine iteF ⟨_,rfl,_,_,rfl,.inr (SqT.of e2),_,_,rfl,rfl,_,rfl,?_⟩
       have qB:∀ H',Same H H' -> Q (.bl (isKb k && (decide (2 <= ps.length) && !(ps.any fun p => yZ p k)))) H' := q
       rw [hk] at qB
       by_cases h2:2 <= ps.length
       · rw [decide_eq_true h2] at qB
         rw [decide_eq_false (by omega)]
         refine iteF ?_
         refine ⟨_,rfl,b,rfl,⟨_,SqT.of e2⟩,xR (K := K) (a := b) (xs := ws) (fun i ys σ H' => ys = ((ps.take i).map fun p => yZ p k).map V.bl /\ H' = H /\ ∃ o,σ = [o,some (.ref a)]) ⟨rfl,rfl,none,rfl⟩
           (fun i ys σ H' hi ⟨e,e3,_⟩ => ⟨by rw [e,List.length_map,List.length_map,List.length_take]; exact Nat.le_trans (show _ <= 1000000 by omega) (by decide),by rw [e3]; exact SqT.of e2⟩) ?_ ?_⟩
         · rintro ys σ H' ⟨e3,rfl,_⟩ la nl
           rw [ln,List.take_length] at e3
           subst e3
           refine ⟨la,ps.map fun p => yZ p k,rfl,SqL.of zc,_,rfl,?_⟩
           have z := qB _ (zf (o := .lst ((ps.map fun p => yZ p k).map V.bl)) nl)
           rw [List.any_map]
           exact z
         · rintro i x ys σ H' hx ⟨e3,rfl,o,rfl⟩
           subst e3
           obtain ⟨p,ep,hAp⟩ := hP.get hx
           obtain ⟨hil,ev⟩ := List.getElem?_eq_some_iff.mp ep
           dsimp only [z6,tYes]
           refine iteT ?_
           refine ⟨_,rfl,x,p,rfl,hAp,_,rfl,?_⟩
           have fin:∀ b:Bool,b = yZ p k -> (((ps.take i).map fun p => yZ p k).map V.bl) ++ [V.bl b] = ((ps.take (i + 1)).map fun p => yZ p k).map V.bl := fun b eb => by
             rw [<- List.take_append_getElem hil,ev,List.map_append,List.map_append,eb]
             rfl
           cases hp:hasK p with
           | false => exact iteF ⟨fin _ (Ja hp).symm,rfl,_,rfl⟩
           | true =>
             obtain ⟨j,r,rfl,hj⟩ := js.mp hp
             cases hAp with
             | @tup c vs2 _ e4 hL2 =>
             cases hL2 with
             | @cons v0 _ _ _ g0 gr =>
             cases g0
             cases gr with
             | @cons v1 _ _ _ g1 gr2 =>
             cases gr2
             refine iteT ⟨_,rfl,_,_,_,_,rfl,rfl,SqT.of e4,rfl,_,rfl,_,_,_,_,rfl,rfl,SqT.of e,rfl,rfl,fin _ ?_,rfl,_,rfl⟩
             show decide (V.str j = V.str k) = (isKb j && decide (j = k))
             rw [hj,Bool.true_and,j6,Bool.eq_iff_iff,beq_iff_eq,decide_eq_true_eq]
       · rw [decide_eq_false h2] at qB
         rw [decide_eq_true (by omega)]
         exact iteT (qB H (Same.refl _))
theorem Z6:zu ["thing","numbers","ahead","part"] ["thing"] (ze sNum) := ⟨rfl,rfl,rfl,by decide +kernel,rfl,by decide +kernel,by decide +kernel⟩
theorem zbk {f fW fB:Addr} {fd fdW fdB:FuncData} (F:Fun K "numbers_in" "numbers_in" sNum f fd) (Z:Nt K mg kA) (Wo:Callee P w K mg base CX0 1 "is_whole" fW fdW ["thing"] xE) (Br:Callee P w K mg base CX0 2 "is_branch" fB fdB ["thing"] spBr):FnOk P w K mg base CX0 4 f fd ["thing"] Z5 := by
 obtain ⟨gKIND,gPARTS,gMOST_BOXES,gKINDS,kk,ti,tint,tbool,tstr,ttup,tlist,tl,tany,ts,tr,kI,kB,kS,kT⟩ := Z
 refine F.ok Z6 (fun vs H Q E h => ?_) (fun cdv A outer s H vs Q E hr h => ?_)
 · obtain ⟨x,t,rfl,_⟩ := h
   rfl
 · obtain ⟨x,t,rfl,hA,hS,q⟩ := h
   refine ⟨_,(zd (zx (i := 1) Z6.nd rfl (Or.inl rfl) (zV zb))
     (zd (zx (i := 2) Z6.nd rfl (Or.inl rfl) (zV (za (pv 0) zb)))
     (zd (wP PassesOwn.never (jk (pv 2) (fun _ => rfl))
     (zd (zx (i := 3) Z6.nd rfl (Or.inl rfl) (Yn PySem.F.plainAttrs_list PySem.F.slot_list_pop PySem.F.type_list_pop Yo (pv 2)))
       (zd (zO (yl (zj Wo.ok (hr.mono (show 1 <= 3 by decide)) rfl Wo.bound Wo.kp Wo.bd .nil zB (za (pv 3) zb)))
       (zg (z8 (yz PySem.F.plainAttrs_list PySem.F.slot_list_append PySem.F.type_list_append ym (pv 1) (za (pv 3) zb))))
       (zg (zO (yl (zj Br.ok (hr.mono (show 2 <= 3 by decide)) rfl Br.bound Br.kp Br.bd .nil zB (za (pv 3) zb)))
         (zg (z8 (yz PySem.F.plainAttrs_list PySem.F.slot_list_extend PySem.F.type_list_extend X4 (pv 2) (za (zk zN (pv 3) (zJ rfl gPARTS) (fun _ _ => rfl)) zb))))
         (zg (zn (zV zb))))))
       (zg (zO (zC yY (zw ya (zi zm (by rfl) tl PySem.boot_len (za (pv 1) zb)) (zi zm (by rfl) tl PySem.boot_len (za (pv 2) zb))) (zJ rfl gMOST_BOXES) (zE _))
       (zg (zn (zV zb)))
       zH)))))
     (zg (zn (pv 1)))))),?_⟩
   refine ⟨by show 0 <= sizeLine; decide,fun ln nln => ?_⟩
   have S1 := zf (o := .lst []) nln
   have h1:(upd H ln (.lst [])) ln = some (.lst []) := zc
   generalize upd H ln (.lst []) = H1 at S1 h1
   refine ⟨_,rfl,by show 1 <= sizeLine; decide,fun la nla => ?_⟩
   have S2 := S1.trans (zf (o := .lst [x]) nla)
   have h2:(upd H1 la (.lst [x])) la = some (.lst [x]) := zc
   have h1 := zf (o := .lst [x]) nla _ _ h1
   have fla:H la = none := S1.free nla
   have nn:ln ≠ la := fun z => by rw [z,h2] at h1; cases h1
   generalize upd H1 la (.lst [x]) = H2 at S2 h1 h2
   dsimp only
   refine run_seq ?_
   refine Zb (fun m σ H3 => ∃ (us:List V) (ts:List T) (ns:List Int) (o:Option V),m = szL ts /\ σ = [some x,some (.ref ln),some (.ref la),o] /\ Same H H3 /\ H3 ln = some (.lst (ns.map V.int)) /\ H3 la = some (.lst us) /\ AtL H us ts /\ (∀ t ∈ ts,Small t) /\ Rel t ts ns /\ ns.length + ts.length <= 24) (szL [t])
     ⟨[x],[t],[],none,rfl,rfl,S2,h1,h2,.cons hA .nil,(fun u hu => by rw [List.mem_singleton.mp hu]; exact hS),.start t,by show 0 + 1 <= 24; decide⟩ ?_
   rintro m σ H3 ⟨us,ts,ns,o,rfl,rfl,S3,hln,hla,hL,hSm,R,l24⟩
   have lus := hL.len
   have te:∀ k:Bool,k = !us.isEmpty -> k = decide (us ≠ []) := fun k e => by
     rw [e]
     cases us <;> simp
   refine ⟨us ≠ [],inferInstance,fun Q' q' => ⟨_,rfl,_,.inl ⟨us,SqL.of hla,rfl⟩,by rw [te _ rfl]; exact q'⟩,fun hne => ?_,fun hne => ?_⟩
   · obtain ⟨ts',p,rfl⟩ : ∃ ts' p,ts = ts' ++ [p] := by
       have:ts ≠ [] := fun z => by rw [z] at lus; exact hne (List.length_eq_zero_iff.mp lus)
       exact ⟨_,_,(List.dropLast_concat_getLast this).symm⟩
     obtain ⟨us',v,rfl,hL',hv⟩ := hL.snoc
     have hpS := hSm p (by simp)
     refine ⟨_,rfl,.inl ⟨rfl,_,SqL.of hla⟩,la,_,v,rfl,rfl,hla,(by simp),?_⟩
     have S4:Same H (upd H3 la (.lst (us' ++ [v]).dropLast)) := zW S3 fla
     have hla4:(upd H3 la (.lst (us' ++ [v]).dropLast)) la = some (.lst us') := by rw [zc,List.dropLast_concat]
     have hln4:(upd H3 la (.lst (us' ++ [v]).dropLast)) ln = some (.lst (ns.map V.int)) := by rw [zp nn]; exact hln
     generalize upd H3 la (.lst (us' ++ [v]).dropLast) = H4 at S4 hla4 hln4
     rw [List.length_append,List.length_singleton] at l24
     have ssz:szL (ts' ++ [p]) = szL ts' + sz p := by rw [Ze]; show szL ts' + (sz p + szL []) = _; rw [show szL [] = 0 by unfold szL; rfl]; omega
     have psz := qz p
     try dsimp only
     refine Xz (R := fun σ H5 => ∃ (us5:List V) (ts5:List T) (ns5:List Int),σ = [some x,some (.ref ln),some (.ref la),some v] /\ Same H H5 /\ H5 ln = some (.lst (ns5.map V.int)) /\ H5 la = some (.lst us5) /\ AtL H us5 ts5 /\ (∀ t ∈ ts5,Small t) /\ Rel t ts5 ns5 /\ szL ts5 < szL (ts' ++ [p]) /\ us5.length <= 2000 /\ ns5.length <= 30) ?_ (fun k => ?_)
     case refine_1 =>
       rintro σ H5 ⟨us5,ts5,ns5,rfl,S5,hln5,hla5,hL5,hS5,R5,lt5,u2000,n30⟩
       have l5 := hL5.len
       refine xK (p := (24:Int) < (((ns5.map V.int).length:Nat):Int) + ((us5.length:Nat):Int)) (zZ (zS (zS (yu (zl rfl) (SqL.of hln5)) (yu (zl rfl) (SqL.of hla5))) zU)) (fun c => ?_) (fun c => ?_)
       · rw [List.length_map] at c
         refine ⟨by show 0 <= sizeLine; decide,fun l nl => q [] l _ (S5.trans (zf nl)) (S5.free nl) zc (by decide) (.inr ⟨rfl,fun y gy => ?_⟩)⟩
         have := R5.many y gy
         omega
       · rw [List.length_map] at c
         exact ⟨szL ts5,lt5,us5,ts5,ns5,_,rfl,rfl,S5,hln5,hla5,hL5,hS5,R5,by omega⟩
     refine ⟨_,rfl,v,p,rfl,hv.same S4,_,rfl,?_⟩
     cases hI:isI p with
     | true =>
       refine iteT ?_
       cases hv with
       | int i =>
         refine ⟨_,rfl,.inl ⟨rfl,_,SqL.of hln4⟩,_,rfl,ln,_,_,rfl,rfl,hln4,by rw [List.length_map]; exact Nat.lt_of_le_of_lt (show _ <= 24 by omega) (by decide),?_⟩
         refine k _ _ ⟨us',ts',ns ++ [i],rfl,zW S4 nln,by rw [zc,List.map_append]; rfl,by rw [zp nn.symm]; exact hla4,hL',fun u hu => hSm u (List.mem_append_left _ hu),R.leaf,by omega,?_,by rw [List.length_append,List.length_singleton]; omega⟩
         rw [hL'.len]
         omega
       | non => cases hI
       | bl b => cases hI
       | str x => cases hI
       | tup e h => cases hI
       | lst e => cases hI
       | dic e => cases hI
     | false =>
       refine iteF ?_
       have sb:∀ a ps,p = .tup [a,.tup ps] -> ps.length <= 100000 := fun a ps e => by
         subst e
         have := (hpS.parts.2 (.tup ps) (by simp)).parts.1
         omega
       refine ⟨_,rfl,v,p,rfl,hv.same S4,sb,fun H5 S5 => ⟨_,rfl,?_⟩⟩
       have S45 := S4.trans S5
       cases hB:isB p with
       | false =>
         refine iteF ?_
         refine ⟨by show 0 <= sizeLine; decide,fun l nl => q [] l _ (S45.trans (zf nl)) (S45.free nl) zc (by decide) (.inr ⟨rfl,fun y gy => ?_⟩)⟩
         exact absurd gy (R.none (zah hI hB) y)
       | true =>
         refine iteT ?_
         obtain ⟨kd,ps,rfl,hk,h2p,hno⟩ := Zf.mp hB
         cases hv with
         | @tup a _ _ e hLL =>
         cases hLL with
         | @cons u0 _ _ _ g0 gr =>
         cases g0
         cases gr with
         | @cons u1 _ _ _ g1 gr2 =>
         cases gr2
         cases g1 with
         | @tup b ws _ e2 hP =>
         have lw := hP.len
         have pl := (hpS.parts.2 (.tup ps) (by simp)).parts
         refine ⟨_,rfl,.inl ⟨rfl,_,SqL.of (S5 _ _ hla4)⟩,_,rfl,_,_,_,_,rfl,rfl,SqT.of (S45 _ _ e),rfl,la,b,_,_,rfl,rfl,S5 _ _ hla4,SqT.of (S45 _ _ e2),Nat.le_trans (show us'.length + ws.length <= 2000 by have := hL'.len; omega) (by decide),?_⟩
         refine k _ _ ⟨us' ++ ws,ts' ++ ps,ns,rfl,zW S45 fla,by rw [zp nn]; exact S5 _ _ hln4,zc,hL'.app hP,fun u hu => ?_,R.node hk h2p hno,?_,by rw [List.length_append]; have := hL'.len; omega,by omega⟩
         · rcases List.mem_append.mp hu with z | z
           · exact hSm u (List.mem_append_left _ z)
           · exact pl.2 u z
         · rw [ssz,Ze]
           rw [xq]
           omega
   · have e0:us = [] := Classical.byContradiction fun z => hne z
     subst e0
     cases hL
     obtain ⟨y,gy,py⟩ := R.done
     refine ⟨_,rfl,q ns ln H3 S3 nln hln (by omega) (.inl ⟨y,gy,?_,py.symm⟩)⟩
     rw [py.length_eq]
     omega
theorem W8:zu ["thing","numbers"] ["thing"] (ze qP) := ⟨rfl,rfl,rfl,by decide +kernel,rfl,by decide +kernel,by decide +kernel⟩
theorem zak {f fN:Addr} {fd fdN:FuncData} (F:Fun K "is_tree" "is_tree" qP f fd) (Z:Nt K mg kA) (Nu:Callee P w K mg base CX0 4 "numbers_in" fN fdN ["thing"] Z5):FnOk P w K mg base CX0 5 f fd ["thing"] YR := by
 obtain ⟨gKIND,gPARTS,gMOST_BOXES,gKINDS,kk,ti,tint,tbool,tstr,ttup,tlist,tl,tany,ts,tr,kI,kB,kS,kT⟩ := Z
 refine F.ok W8 (fun vs H Q E h => ?_) (fun cdv A outer s H vs Q E hr h => ?_)
 · obtain ⟨x,t,rfl,_⟩ := h
   rfl
 · obtain ⟨x,t,rfl,hA,hS,q⟩ := h
   refine ⟨_,(zd (zx (i := 1) W8.nd rfl (Or.inl rfl) (zj Nu.ok hr rfl Nu.bound Nu.kp Nu.bd .nil zB (za (pv 0) zb)))
     (zg (zn (xt (yJ yY (zi zm (by rfl) tl PySem.boot_len (za (pv 1) zb)) zh (zE _)) (xW (yJ (Yx hr.units) (zi X5 (by rfl) ts PyProof.Rows.boot_sorted (za (pv 1) zb)) (qC rfl rfl tlist rfl tr (za (zi zm (by rfl) tl PySem.boot_len (za (pv 1) zb)) zb)) (zE _))))))),?_⟩
   refine ⟨_,rfl,x,t,rfl,hA,hS,fun r l H1 S1 nl hl r24 tells => ?_⟩
   refine ⟨_,rfl,_,_,rfl,.inl (SqL.of hl),_,_,rfl,rfl,_,rfl,?_⟩
   rw [List.length_map]
   by_cases h0:0 < r.length
   · rw [decide_eq_true (by omega)]
     refine iteT ?_
     refine ⟨_,rfl,l,r,rfl,SqL.of hl,by omega,fun l2 ms nl2 pm st => ?_⟩
     have S2 := zf (o := .lst (ms.map V.int)) nl2
     have h2:(upd H1 l2 (.lst (ms.map V.int))) l2 = some (.lst (ms.map V.int)) := zc
     have hl2 := S2 _ _ hl
     generalize upd H1 l2 (.lst (ms.map V.int)) = H2 at S2 h2 hl2
     refine ⟨_,rfl,_,_,rfl,.inl (SqL.of hl2),r.length,by rw [List.length_map],by omega,fun l3 nl3 => ?_⟩
     have S3 := zf (o := .lst ((List.range r.length).map fun i:Nat => V.int i)) nl3
     have h3:(upd H2 l3 (.lst ((List.range r.length).map fun i:Nat => V.int i))) l3 = some (.lst ((up r.length).map V.int)) := by
       rw [zc]
       unfold up
       rw [List.map_map]
       rfl
     refine ⟨l2,l3,1,_,rfl,rfl,zaj (SqL.of (S3 _ _ h2)) (SqL.of h3),by decide,?_⟩
     refine q _ _ (S1.trans (S2.trans S3)) ?_
     show decide (ms = up r.length) = true ↔ _
     rw [decide_eq_true_eq,<- tells.tree pm st]
     exact ⟨fun z => ⟨h0,z⟩,fun z => z.2⟩
   · rw [decide_eq_false (by omega)]
     refine iteF (q _ _ S1 ?_)
     rw [<- tells.tree (List.Perm.refl _) (by rw [List.length_eq_zero_iff.mp (show r.length = 0 by omega)]; exact List.Pairwise.nil)]
     exact ⟨fun z => (by cases z),fun z => absurd z.1 h0⟩
end
end JI
namespace Tre
open PySem
theorem xV:∀ ts:List T,ts.length <= szL ts
 | [] => Nat.zero_le _
 | t :: r => by
   have := xV r
   have := qz t
   show r.length + 1 <= sz t + szL r
   omega
end Tre
namespace JI
open PySem L2 Tre PySem.W
mutual
theorem ju:∀ t:T,sz t <= 1000 -> Small t
 | .non,_ => .non
 | .bl b,_ => .bl b
 | .int i,_ => .int i
 | .str x,_ => .str x
 | .lst,_ => .lst
 | .dic,_ => .dic
 | .tup ts,h => by
   have e:sz (.tup ts) = 1 + szL ts := by simp only [sz]
   have := xV ts
   exact .tup (by omega) (ZU ts (by omega))
theorem ZU:∀ ts:List T,szL ts <= 1000 -> ∀ t ∈ ts,Small t
 | [],_,t,ht => (List.not_mem_nil ht).elim
 | t :: r,h,u,hu => by
   have e:szL (t :: r) = sz t + szL r := by simp only [szL]
   rcases List.mem_cons.mp hu with z | z
   · rw [z]
     exact ju t (by omega)
   · exact ZU r (by omega) u z
end
theorem Paired.unsnoc {α β:Type} {R:α -> β -> Prop} {p:β} {ps:List β}:∀ {vs:List α},Paired R vs (ps ++ [p]) -> ∃ us v,vs = us ++ [v] /\ Paired R us ps /\ R v p := by
 induction ps with
 | nil =>
   intro vs h
   cases h with
   | cons r t => cases t; exact ⟨[],_,rfl,.nil,r⟩
 | cons b ps ih =>
   intro vs h
   cases h with
   | cons r t =>
     obtain ⟨us,v,e,h1,h2⟩ := ih t
     exact ⟨_ :: us,v,by rw [e]; rfl,.cons r h1,h2⟩
end JI
namespace Tre
open PySem
end Tre
namespace JI
open PySem L2 Tre PySem.W
theorem AtL.knot {H:Hp} {vs:List V} {k:Str} {ps:List T} (h:AtL H vs [.str k,.tup ps]):∃ b ws,vs = [.str k,.ref b] /\ H b = some (.tup ws) /\ AtL H ws ps := by
 cases h with
 | cons h r =>
   cases h
   cases r with
   | cons h2 r2 =>
     cases r2
     cases h2 with
     | tup e hq => exact ⟨_,_,rfl,e,hq⟩
theorem XD:("|-" : Str) = txt [124,45] := by decide +kernel
theorem W9 (i:Int):∃ c:Nat,atI [124,45] (i % 2) = some c /\ isK (txt [c]) := by
 rcases (show i % 2 = 0 \/ i % 2 = 1 by omega) with e | e <;> rw [e]
 · exact ⟨124,rfl,.inl (by decide +kernel)⟩
 · exact ⟨45,rfl,.inr (by decide +kernel)⟩
end JI
namespace Tre
open PySem
end Tre
namespace JI
open PySem L2 Tre PySem.W
theorem Jb (ns:List Int) (lo hi:Option Int):∃ ms:List Int,cutV (ns.map V.int) lo hi = ms.map V.int := by
 unfold cutV
 exact ⟨_,by rw [<- List.map_drop,<- List.map_take]⟩
theorem ZV {α β:Type} (f:α -> β):∀ (l:List α) (k:Nat),(l.map f).eraseIdx k = (l.eraseIdx k).map f
 | [],_ => rfl
 | _ :: _,0 => rfl
 | x :: l,k + 1 => by
   show f x :: (l.map f).eraseIdx k = f x :: (l.eraseIdx k).map f
   rw [ZV f l k]
theorem jT {α:Type}:∀ {l:List α} {k:Nat} (h:k < l.length),(l[k] :: l.eraseIdx k).Perm l
 | _ :: _,0,_ => .refl _
 | x :: l,k + 1,h => by
   show (l[k]'(by simpa using h) :: x :: l.eraseIdx k).Perm (x :: l)
   exact (List.Perm.swap _ _ _).trans ((jT (l := l) (k := k) (by simpa using h)).cons x)
end JI
namespace Tre
open PySem
mutual
theorem Good.szN:∀ {t:T} {n:List Int},Good t n -> sz t + 3 <= 4 * n.length
 | _,_,.leaf i => by simp [sz]
 | _,_,.node (k := k) (ps := ps) (nss := nss) hk h2 hn h => by
   have := zG.szN h
   have := xq k ps
   omega
theorem zG.szN:∀ {ts:List T} {nss:List (List Int)},zG ts nss -> szL ts + 3 * ts.length <= 4 * nss.flatten.length
 | _,_,.nil => by simp [szL]
 | _,_,.cons h r => by
   have := h.szN
   have := zG.szN r
   rw [List.flatten_cons,List.length_append,List.length_cons]
   simp only [szL]
   omega
end
theorem JF:∀ (r:List T) (p:T),p ∈ r -> sz p <= szL r
 | q :: r,p,h => by
   simp only [szL]
   rcases List.mem_cons.mp h with z | z
   · rw [z]; omega
   · have := JF r p z
     omega
theorem qD {ps:List T} {p:T} (h2:2 <= ps.length) (hp:p ∈ ps):sz p + 1 <= szL ps := by
 obtain ⟨i,hi,e⟩ := List.mem_iff_getElem.mp hp
 have c:ps[i]? = some p := by rw [List.getElem?_eq_getElem hi,e]
 match ps,h2,i,c with
 | a :: b :: r,_,0,c =>
   have c:a = p := by simpa using c
   subst c
   have := qz b
   simp only [szL]
   omega
 | a :: r,_,j + 1,c =>
   have := JF r p (List.mem_of_getElem? (i := j) (by simpa using c))
   have := qz a
   simp only [szL]
   omega
def okN (n:List Int):Prop := ∀ i ∈ n,0 <= i /\ i < 24
theorem z4.okN {t:T} {n:List Int} (h:z4 t) (g:Good t n):okN n /\ n.length <= 24 := by
 obtain ⟨x,gx,l,p⟩ := h
 have e := Good.uniq g gx
 subst e
 refine ⟨fun i hi => ?_,l⟩
 have := p.mem_iff.mp hi
 unfold up at this
 obtain ⟨j,hj,rfl⟩ := List.mem_map.mp this
 have := List.mem_range.mp hj
 omega
end Tre
namespace JI
open PySem L2 Tre PySem.W
def YS (C:Addr):Sp := fun vs H Q E => ∃ (x:V) (t:T),vs = [x] /\ At H x t /\ sz t <= 1000 /\ ((z4 t /\ ∀ H',Same H H' -> Q .non H') \/ (¬ z4 t /\ ∀ H',Same H H' -> E (.ref C) none H'))
def Zg (C:Addr):Sp := fun vs H Q E => ∃ (x:V) (t:T),vs = [x] /\ At H x t /\ sz t <= 1000 /\ ((∃ n,z4 t /\ Good t n /\ ∀ H',Same H H' -> Q (.int n.length) H') \/ (¬ z4 t /\ ∀ H',Same H H' -> E (.ref C) none H'))
section
variable {P:Program} {w:World} {K:PySem.W.Frag} {mg:Str -> Option Value} {base:Heap} {kA:Addr}
theorem zbl:zu ["thing"] ["thing"] (ze qQ) := ⟨rfl,rfl,rfl,by decide +kernel,rfl,by decide +kernel,by decide +kernel⟩
theorem zal {f fT C:Addr} {fd fdT:FuncData} (F:Fun K "refuse_no_tree" "refuse_no_tree" qQ f fd) (ex:Exc K mg "NoTree" C) (Tr:Callee P w K mg base CX0 5 "is_tree" fT fdT ["thing"] YR):FnOk P w K mg base (CXE P w) 6 f fd ["thing"] (YS C) := by
 refine F.okE zbl (fun vs H Q E h => ?_) (fun cdv A outer s H vs Q E hr hh h => ?_)
 · obtain ⟨x,t,rfl,_⟩ := h
   rfl
 · obtain ⟨x,t,rfl,hA,hz,h⟩ := h
   refine ⟨_,(zg (zO (yB (yl (zj Tr.ok hr rfl Tr.bound Tr.kp Tr.bd .nil zB (za (pv 0) zb))))
     (zg (xm ex hh rfl (za yd zb)))
     zH)),?_⟩
   refine ⟨_,rfl,x,t,rfl,hA,ju t hz,fun b H1 S1 hb => ?_⟩
   rcases h with ⟨iT,q⟩ | ⟨nT,qe⟩
   · have e:b = true := hb.mpr iT
     subst e
     exact ⟨_,rfl,iteF (q H1 S1)⟩
   · have e:b = false := by cases b with | false => rfl | true => exact absurd (hb.mp rfl) nT
     subst e
     exact ⟨_,rfl,iteT ⟨by show 1 <= sizeLine; decide,qe H1 S1⟩⟩
theorem zam:zu ["tree"] ["tree"] (ze wE) := ⟨rfl,rfl,rfl,by decide +kernel,rfl,by decide +kernel,by decide +kernel⟩
theorem Jc {f fR fN C:Addr} {fd fdR fdN:FuncData} (F:Fun K "boxes_of" "boxes_of" wE f fd) (tl:mg "len" = none) (Re:Callee P w K mg base (CXE P w) 6 "refuse_no_tree" fR fdR ["thing"] (YS C)) (Nu:Callee P w K mg base CX0 4 "numbers_in" fN fdN ["thing"] Z5):FnOk P w K mg base (CXE P w) 7 f fd ["tree"] (Zg C) := by
 refine F.okE zam (fun vs H Q E h => ?_) (fun cdv A outer s H vs Q E hr hh h => ?_)
 · obtain ⟨x,t,rfl,_⟩ := h
   rfl
 · obtain ⟨x,t,rfl,hA,hz,h⟩ := h
   refine ⟨_,(zd (z8 (zj Re.ok hr rfl Re.bound Re.kp Re.bd .nil y3 (za (pv 0) zb)))
     (zg (zn (zi zm (by rfl) tl PySem.boot_len (za (zj Nu.ok (hr.mono (show 4 <= 6 by decide)) rfl Nu.bound Nu.kp Nu.bd .nil zB (za (pv 0) zb)) zb))))),?_⟩
   rcases h with ⟨n,iT,g,q⟩ | ⟨nT,qe⟩
   · refine ⟨_,rfl,x,t,rfl,hA,hz,.inl ⟨iT,fun H1 S1 => ?_⟩⟩
     refine ⟨_,rfl,x,t,rfl,hA.same S1,ju t hz,fun r l H2 S2 nl hl lr tell => ⟨l,_,rfl,.inl (SqL.of hl),?_⟩⟩
     rw [List.length_map]
     rcases tell with ⟨y,gy,_,py⟩ | ⟨_,no⟩
     · rw [py.length_eq,Good.uniq gy g]
       exact q H2 (S1.trans S2)
     · exact absurd (no n g) (by have := (iT.okN g).2; omega)
   · exact ⟨_,rfl,x,t,rfl,hA,hz,.inr ⟨nT,qe⟩⟩
end
end JI
namespace Sta
open Lin
abbrev S := List (Nat × Nat)
abbrev R := Nat -> Nat -> Prop
def Lt (p q:Nat × Nat):Prop := p.1 < q.1 /\ q.2 < p.2
def Ok (A:S):Prop := A.Pairwise Lt /\ ∀ p ∈ A,1 <= p.1 /\ 1 <= p.2
def reg (A:S):R := fun w h => ∃ p,p ∈ A /\ p.1 <= w /\ p.2 <= h
structure Up (P:R):Prop where
 up:∀ {w h w' h'},P w h -> w <= w' -> h <= h' -> P w' h'
 pos:∀ {w h},P w h -> 1 <= w /\ 1 <= h
def Same (P Q:R):Prop := ∀ w h,P w h ↔ Q w h
theorem Same.trans {P Q U:R} (h:Same P Q) (k:Same Q U):Same P U := fun w j => (h w j).trans (k w j)
def bes (P Q:R):R := fun w h => ∃ a b,a + b <= w /\ P a h /\ Q b h
def dwn (P Q:R):R := fun w h => ∃ a b,a + b <= h /\ P w a /\ Q w b
theorem Jd {P P' Q Q':R} (h:Same P P') (k:Same Q Q'):Same (bes P Q) (bes P' Q') := fun w j => by
 constructor
 · rintro ⟨a,b,e,x,y⟩
   exact ⟨a,b,e,(h _ _).mp x,(k _ _).mp y⟩
 · rintro ⟨a,b,e,x,y⟩
   exact ⟨a,b,e,(h _ _).mpr x,(k _ _).mpr y⟩
theorem YT {P Q:R} (h:Up P) (k:Up Q):Up (bes P Q) := ⟨fun ⟨a,b,e,x,y⟩ u v => ⟨a,b,Nat.le_trans e u,h.up x (Nat.le_refl _) v,k.up y (Nat.le_refl _) v⟩,fun ⟨a,b,e,x,y⟩ => by
 have := h.pos x
 omega⟩
theorem YU {P Q:R} (h:Up P) (k:Up Q):Up (dwn P Q) := ⟨fun ⟨a,b,e,x,y⟩ u v => ⟨a,b,Nat.le_trans e v,h.up x u (Nat.le_refl _),k.up y u (Nat.le_refl _)⟩,fun ⟨a,b,e,x,y⟩ => by
 have := h.pos x
 omega⟩
def sbs:S -> S -> S
 | a :: as,b :: bs => (a.1 + b.1,max a.2 b.2) :: (if a.2 = max a.2 b.2 then (if b.2 = max a.2 b.2 then sbs as bs else sbs as (b :: bs)) else sbs (a :: as) bs)
 | [],_ => []
 | _ :: _,[] => []
termination_by a b => a.length + b.length
decreasing_by all_goals simp_wf <;> omega
theorem x8 (a:Nat × Nat) (as:S) (b:Nat × Nat) (bs:S):sbs (a :: as) (b :: bs) = (a.1 + b.1,max a.2 b.2) :: (if a.2 = max a.2 b.2 then (if b.2 = max a.2 b.2 then sbs as bs else sbs as (b :: bs)) else sbs (a :: as) bs) := by
 rw [sbs]
theorem qY (b:S):sbs [] b = [] := by rw [sbs]
theorem w5 (a:S):sbs a [] = [] := by cases a <;> rw [sbs]
theorem ind {C:S -> S -> Prop} (h1:∀ b,C [] b) (h2:∀ a as,C (a :: as) []) (h3:∀ a as b bs,C as bs -> C as (b :: bs) -> C (a :: as) bs -> C (a :: as) (b :: bs)):∀ n A B,A.length + B.length <= n -> C A B
 | n,[],B,_ => h1 B
 | n,a :: as,[],_ => h2 a as
 | 0,a :: as,b :: bs,h => by simp at h
 | n + 1,a :: as,b :: bs,h => by
   simp only [List.length_cons] at h
   exact h3 a as b bs (ind h1 h2 h3 n as bs (by omega)) (ind h1 h2 h3 n as (b :: bs) (by simp only [List.length_cons]; omega)) (ind h1 h2 h3 n (a :: as) bs (by simp only [List.length_cons]; omega))
theorem ind' {C:S -> S -> Prop} (h1:∀ b,C [] b) (h2:∀ a as,C (a :: as) []) (h3:∀ a as b bs,C as bs -> C as (b :: bs) -> C (a :: as) bs -> C (a :: as) (b :: bs)) (A B:S):C A B := ind h1 h2 h3 _ A B (Nat.le_refl _)
theorem qZ (A B:S):∀ z ∈ sbs A B,∃ x y,x ∈ A /\ y ∈ B /\ z = (x.1 + y.1,max x.2 y.2) := by
 refine ind' (C := fun A B => ∀ z ∈ sbs A B,∃ x y,x ∈ A /\ y ∈ B /\ z = (x.1 + y.1,max x.2 y.2)) (fun b z hz => ?_) (fun a as z hz => ?_) (fun a as b bs i1 i2 i3 z hz => ?_) A B
 · rw [qY] at hz
   exact (List.not_mem_nil hz).elim
 · rw [w5] at hz
   exact (List.not_mem_nil hz).elim
 · rw [x8] at hz
   rcases List.mem_cons.mp hz with e | e
   · exact ⟨a,b,List.mem_cons_self,List.mem_cons_self,e⟩
   · split at e
     · split at e
       · obtain ⟨x,y,hx,hy,e⟩ := i1 z e
         exact ⟨x,y,List.mem_cons_of_mem _ hx,List.mem_cons_of_mem _ hy,e⟩
       · obtain ⟨x,y,hx,hy,e⟩ := i2 z e
         exact ⟨x,y,List.mem_cons_of_mem _ hx,hy,e⟩
     · obtain ⟨x,y,hx,hy,e⟩ := i3 z e
       exact ⟨x,y,hx,List.mem_cons_of_mem _ hy,e⟩
theorem Ok.tail {a:Nat × Nat} {as:S} (h:Ok (a :: as)):Ok as := ⟨(List.pairwise_cons.mp h.1).2,fun p hp => h.2 p (List.mem_cons_of_mem _ hp)⟩
theorem Ok.head {a:Nat × Nat} {as:S} (h:Ok (a :: as)):∀ x ∈ as,a.1 < x.1 /\ x.2 < a.2 := (List.pairwise_cons.mp h.1).1
theorem Ok.all {a:Nat × Nat} {as:S} (h:Ok (a :: as)):∀ x ∈ a :: as,a.1 <= x.1 /\ x.2 <= a.2 := fun x hx => by
 rcases List.mem_cons.mp hx with e | e
 · rw [e]; exact ⟨Nat.le_refl _,Nat.le_refl _⟩
 · have := h.head x e
   omega
theorem zbm (A B:S):Ok A -> Ok B -> Ok (sbs A B) := by
 refine ind' (C := fun A B => Ok A -> Ok B -> Ok (sbs A B)) (fun b _ _ => ?_) (fun a as _ _ => ?_) (fun a as b bs i1 i2 i3 hA hB => ?_) A B
 · rw [qY]
   exact ⟨List.Pairwise.nil,fun p hp => (List.not_mem_nil hp).elim⟩
 · rw [w5]
   exact ⟨List.Pairwise.nil,fun p hp => (List.not_mem_nil hp).elim⟩
 · rw [x8]
   have pa := hA.2 a List.mem_cons_self
   have pb := hB.2 b List.mem_cons_self
   have fin:∀ L:S,Ok L -> (∀ z ∈ L,a.1 + b.1 < z.1 /\ z.2 < max a.2 b.2) -> Ok ((a.1 + b.1,max a.2 b.2) :: L) := fun L o h => ⟨List.pairwise_cons.mpr ⟨h,o.1⟩,fun p hp => by
     rcases List.mem_cons.mp hp with e | e
     · rw [e]
       exact ⟨show 1 <= a.1 + b.1 by omega,show 1 <= max a.2 b.2 by omega⟩
     · exact o.2 p e⟩
   split
   · split
     · refine fin _ (i1 hA.tail hB.tail) fun z hz => ?_
       obtain ⟨x,y,hx,hy,e⟩ := qZ _ _ z hz
       have := hA.head x hx
       have := hB.head y hy
       rw [e]
       show a.1 + b.1 < x.1 + y.1 /\ max x.2 y.2 < max a.2 b.2
       omega
     · refine fin _ (i2 hA.tail hB) fun z hz => ?_
       obtain ⟨x,y,hx,hy,e⟩ := qZ _ _ z hz
       have := hA.head x hx
       have := hB.all y hy
       rw [e]
       show a.1 + b.1 < x.1 + y.1 /\ max x.2 y.2 < max a.2 b.2
       omega
   · refine fin _ (i3 hA hB.tail) fun z hz => ?_
     obtain ⟨x,y,hx,hy,e⟩ := qZ _ _ z hz
     have := hA.all x hx
     have := hB.head y hy
     rw [e]
     show a.1 + b.1 < x.1 + y.1 /\ max x.2 y.2 < max a.2 b.2
     omega
theorem zbn (A B:S):Ok A -> Ok B -> ∀ x ∈ A,∀ y ∈ B,∀ w h,x.1 + y.1 <= w -> x.2 <= h -> y.2 <= h -> reg (sbs A B) w h := by
 refine ind' (C := fun A B => Ok A -> Ok B -> ∀ x ∈ A,∀ y ∈ B,∀ w h,x.1 + y.1 <= w -> x.2 <= h -> y.2 <= h -> reg (sbs A B) w h) (fun b _ _ x hx => (List.not_mem_nil hx).elim) (fun a as _ _ x _ y hy => (List.not_mem_nil hy).elim) (fun a as b bs i1 i2 i3 hA hB x hx y hy w h e1 e2 e3 => ?_) A B
 rw [x8]
 have ax := hA.all x hx
 have by' := hB.all y hy
 by_cases c:max a.2 b.2 <= h
 · exact ⟨_,List.mem_cons_self,show a.1 + b.1 <= w by omega,c⟩
 · have up:∀ L:S,reg L w h -> reg ((a.1 + b.1,max a.2 b.2) :: L) w h := fun L ⟨p,m,z⟩ => ⟨p,List.mem_cons_of_mem _ m,z⟩
   refine up _ ?_
   have xa:a.2 = max a.2 b.2 -> x ∈ as := fun z => by
     rcases List.mem_cons.mp hx with e | e
     · rw [e] at e2; omega
     · exact e
   have yb:b.2 = max a.2 b.2 -> y ∈ bs := fun z => by
     rcases List.mem_cons.mp hy with e | e
     · rw [e] at e3; omega
     · exact e
   split
   · rename_i c1
     split
     · rename_i c2
       exact i1 hA.tail hB.tail x (xa c1) y (yb c2) w h e1 e2 e3
     · exact i2 hA.tail hB x (xa c1) y hy w h e1 e2 e3
   · exact i3 hA hB.tail x hx y (yb (by omega)) w h e1 e2 e3
theorem zan {A B:S} (hA:Ok A) (hB:Ok B):Same (reg (sbs A B)) (bes (reg A) (reg B)) := fun w h => by
 constructor
 · rintro ⟨z,m,e1,e2⟩
   obtain ⟨x,y,hx,hy,rfl⟩ := qZ A B z m
   have e1:x.1 + y.1 <= w := e1
   have e2:max x.2 y.2 <= h := e2
   exact ⟨x.1,y.1,e1,⟨x,hx,Nat.le_refl _,by omega⟩,⟨y,hy,Nat.le_refl _,by omega⟩⟩
 · rintro ⟨a,b,e,⟨x,hx,x1,x2⟩,⟨y,hy,y1,y2⟩⟩
   exact zbn A B hA hB x hx y hy w h (by omega) x2 y2
def exch (A:S):S := A.reverse.map fun p => (p.2,p.1)
theorem jv {A:S} {z:Nat × Nat}:z ∈ exch A ↔ (z.2,z.1) ∈ A := by
 unfold exch
 rw [List.mem_map]
 constructor
 · rintro ⟨p,hp,rfl⟩
   exact List.mem_reverse.mp hp
 · intro h
   exact ⟨_,List.mem_reverse.mpr h,rfl⟩
theorem zao {A:S} (h:Ok A):Ok (exch A) := by
 refine ⟨?_,fun p hp => ?_⟩
 · unfold exch
   rw [List.pairwise_map,List.pairwise_reverse]
   exact h.1.imp fun ⟨a,b⟩ => ⟨b,a⟩
 · have := h.2 _ (jv.mp hp)
   exact ⟨this.2,this.1⟩
theorem Je (A:S):∀ w h,reg (exch A) w h ↔ reg A h w := fun w h => by
 constructor
 · rintro ⟨p,m,a,b⟩
   exact ⟨_,jv.mp m,b,a⟩
 · rintro ⟨p,m,a,b⟩
   exact ⟨(p.2,p.1),jv.mpr m,b,a⟩
def Low (P:R) (w:Nat):Option Nat -> Prop
 | none => ∀ h,¬ P w h
 | some v => P w v /\ ∀ h,P w h -> v <= h
theorem Low.of {P Q:R} (s:Same P Q) {w:Nat}:∀ {o:Option Nat},Low P w o -> Low Q w o
 | none,l => fun h z => l h ((s _ _).mpr z)
 | some v,l => ⟨(s _ _).mp l.1,fun h z => l.2 h ((s _ _).mpr z)⟩
theorem Low.uniq {P:R} {w:Nat}:∀ {a b:Option Nat},Low P w a -> Low P w b -> a = b
 | none,none,_,_ => rfl
 | none,some v,h,k => (h v k.1).elim
 | some v,none,h,k => (k v h.1).elim
 | some v,some u,h,k => by rw [Nat.le_antisymm (h.2 u k.1) (k.2 v h.1)]
def xg (ws:List W):R := fun w h => 1 <= w /\ (∀ u ∈ ws,u.length <= w) /\ max 1 (cnt ws (w:Int)) <= h
theorem zap (ws:List W):Up (xg ws) := ⟨fun ⟨a,b,c⟩ x y => ⟨by omega,fun u hu => Nat.le_trans (b u hu) x,by
 have := x6 (ws := ws) (v := (_:Nat)) (v' := (_:Nat)) (Int.ofNat_le.mpr x) fun u hu => Int.ofNat_le.mpr (b u hu)
 omega⟩,fun ⟨a,b,c⟩ => by omega⟩
def stN (ws:List W):S := (xy ws).map fun p => (p.1.toNat,p.2)
theorem YV {c:Int -> Nat} {lo:Int} (h0:1 <= lo):∀ k:Nat,(∀ j:Nat,j < k -> c (lo + (j + 1:Nat)) <= c (lo + j)) -> (∀ j:Nat,j <= k -> 1 <= c (lo + j)) ->
   Ok ((falls c lo k).map fun p => (p.1.toNat,p.2)) /\ (∀ p ∈ falls c lo k,lo <= p.1 /\ p.1 <= lo + k /\ c (lo + k) <= p.2) /\ ∀ w h:Nat,reg ((falls c lo k).map fun p => (p.1.toNat,p.2)) w h ↔ ∃ j:Nat,j <= k /\ lo + j <= w /\ c (lo + j) <= h
 | 0,_,hp => by
   have e0:lo + ((0:Nat):Int) = lo := Int.add_zero _
   have p0 := hp 0 (Nat.le_refl _)
   rw [e0] at p0
   refine ⟨⟨List.pairwise_singleton _ _,fun p hp => ?_⟩,fun p hp => ?_,fun w h => ?_⟩
   · have hp:p = (lo.toNat,c lo) := List.mem_singleton.mp hp
     rw [hp]
     exact ⟨show 1 <= lo.toNat by omega,p0⟩
   · have hp:p = (lo,c lo) := List.mem_singleton.mp hp
     rw [hp,e0]
     exact ⟨Int.le_refl _,Int.le_refl _,Nat.le_refl _⟩
   · constructor
     · rintro ⟨p,hp,a,b⟩
       have hp:p = (lo.toNat,c lo) := List.mem_singleton.mp hp
       rw [hp] at a b
       have a:lo.toNat <= w := a
       exact ⟨0,Nat.le_refl _,by omega,by rw [e0]; exact b⟩
     · rintro ⟨j,hj,a,b⟩
       have:j = 0 := by omega
       subst this
       rw [e0] at a b
       exact ⟨(lo.toNat,c lo),List.mem_singleton.mpr rfl,show lo.toNat <= w by omega,b⟩
 | k + 1,ha,hp => by
   obtain ⟨i1,i2,i3⟩ := YV (c := c) (lo := lo) h0 k (fun j hj => ha j (by omega)) (fun j hj => hp j (by omega))
   have hs := ha k (Nat.lt_succ_self _)
   show Ok ((if c (lo + (k + 1:Nat)) < c (lo + k) then falls c lo k ++ [(lo + (k + 1:Nat),c (lo + (k + 1:Nat)))] else falls c lo k).map fun p => (p.1.toNat,p.2)) /\ (∀ p ∈ (if c (lo + (k + 1:Nat)) < c (lo + k) then falls c lo k ++ [(lo + (k + 1:Nat),c (lo + (k + 1:Nat)))] else falls c lo k),lo <= p.1 /\ p.1 <= lo + (k + 1:Nat) /\ c (lo + (k + 1:Nat)) <= p.2) /\ ∀ w h:Nat,reg ((if c (lo + (k + 1:Nat)) < c (lo + k) then falls c lo k ++ [(lo + (k + 1:Nat),c (lo + (k + 1:Nat)))] else falls c lo k).map fun p => (p.1.toNat,p.2)) w h ↔ ∃ j:Nat,j <= k + 1 /\ lo + j <= w /\ c (lo + j) <= h
   by_cases d:c (lo + (k + 1:Nat)) < c (lo + k)
   · rw [if_pos d]
     refine ⟨⟨?_,fun p hp' => ?_⟩,fun p hp' => ?_,fun w h => ?_⟩
     · rw [List.map_append,List.pairwise_append]
       refine ⟨i1.1,List.pairwise_singleton _ _,fun a ha' b hb => ?_⟩
       have hb:b = ((lo + (k + 1:Nat)).toNat,c (lo + (k + 1:Nat))) := List.mem_singleton.mp hb
       obtain ⟨p,hp',rfl⟩ := List.mem_map.mp ha'
       have := i2 p hp'
       rw [hb]
       exact ⟨show p.1.toNat < (lo + (k + 1:Nat)).toNat by omega,show c (lo + (k + 1:Nat)) < p.2 by omega⟩
     · rw [List.map_append] at hp'
       rcases List.mem_append.mp hp' with e | e
       · exact i1.2 p e
       · have e:p = ((lo + (k + 1:Nat)).toNat,c (lo + (k + 1:Nat))) := List.mem_singleton.mp e
         rw [e]
         exact ⟨show 1 <= (lo + (k + 1:Nat)).toNat by omega,hp (k + 1) (Nat.le_refl _)⟩
     · rcases List.mem_append.mp hp' with e | e
       · have := i2 p e
         exact ⟨this.1,by omega,by omega⟩
       · rw [List.mem_singleton.mp e]
         exact ⟨show lo <= lo + (k + 1:Nat) by omega,Int.le_refl _,Nat.le_refl _⟩
     · rw [List.map_append]
       constructor
       · rintro ⟨p,hp',a,b⟩
         rcases List.mem_append.mp hp' with e | e
         · obtain ⟨j,x,y⟩ := (i3 w h).mp ⟨p,e,a,b⟩
           exact ⟨j,by omega,y⟩
         · have e:p = ((lo + (k + 1:Nat)).toNat,c (lo + (k + 1:Nat))) := List.mem_singleton.mp e
           rw [e] at a b
           have a:(lo + (k + 1:Nat)).toNat <= w := a
           exact ⟨k + 1,Nat.le_refl _,by omega,b⟩
       · rintro ⟨j,x,y,z⟩
         rcases Nat.lt_or_eq_of_le x with e | e
         · obtain ⟨p,q1,q2⟩ := (i3 w h).mpr ⟨j,by omega,y,z⟩
           exact ⟨p,List.mem_append_left _ q1,q2⟩
         · subst e
           exact ⟨((lo + (k + 1:Nat)).toNat,c (lo + (k + 1:Nat))),List.mem_append_right _ (List.mem_singleton.mpr rfl),show (lo + (k + 1:Nat)).toNat <= w by omega,z⟩
   · rw [if_neg d]
     refine ⟨i1,fun p hp' => ?_,fun w h => ?_⟩
     · have := i2 p hp'
       exact ⟨this.1,by omega,by omega⟩
     · rw [i3]
       constructor
       · rintro ⟨j,x,y⟩
         exact ⟨j,by omega,y⟩
       · rintro ⟨j,x,y,z⟩
         rcases Nat.lt_or_eq_of_le x with e | e
         · exact ⟨j,by omega,y,z⟩
         · subst e
           exact ⟨k,Nat.le_refl _,by omega,by omega⟩
theorem YW {ws:List W} {w:Nat}:(∀ u ∈ ws,u.length <= w) ↔ wid ws <= w := by
 constructor
 · intro h
   by_cases e:ws = []
   · subst e
     exact Nat.zero_le _
   · obtain ⟨u,hu,e⟩ := wy e
     have := h u hu
     omega
 · intro h u hu
   exact Nat.le_trans (qx hu) h
theorem zb5 {ws:List W} (h1:∀ u ∈ ws,1 <= u.length):Ok (stN ws) /\ Same (reg (stN ws)) (xg ws) := by
 unfold stN xy
 by_cases e:ws = []
 · subst e
   rw [if_pos rfl]
   refine ⟨⟨List.pairwise_singleton _ _,fun p hp => ?_⟩,fun w h => ?_⟩
   · have hp:p = (1,1) := List.mem_singleton.mp hp
     rw [hp]
     exact ⟨Nat.le_refl _,Nat.le_refl _⟩
   · have c0:cnt [] (w:Int) = 0 := Nat.le_zero.mp (YG [] _)
     constructor
     · rintro ⟨p,hp,a,b⟩
       have hp:p = (1,1) := List.mem_singleton.mp hp
       rw [hp] at a b
       exact ⟨a,fun u hu => (List.not_mem_nil hu).elim,by rw [c0]; exact b⟩
     · rintro ⟨a,_,b⟩
       rw [c0] at b
       exact ⟨(1,1),List.mem_singleton.mpr rfl,a,b⟩
 · rw [if_neg e]
   obtain ⟨u,hu,eu⟩ := wy e
   have w1:1 <= wid ws := by rw [<- eu]; exact h1 u hu
   have wt := ZQ e
   have fit:∀ v:Int,(wid ws:Int) <= v -> ∀ u ∈ ws,(u.length:Int) <= v := fun v hv u hu => Int.le_trans (Int.ofNat_le.mpr (qx hu)) hv
   obtain ⟨k1,k2,k3⟩ := YV (c := cnt ws) (lo := (wid ws:Int)) (by omega) (total ws - wid ws).toNat (fun j _ => x6 (by omega) (fit _ (by omega))) (fun j _ => qL e _)
   refine ⟨k1,fun w h => ?_⟩
   rw [k3]
   constructor
   · rintro ⟨j,x,y,z⟩
     refine ⟨by omega,YW.mpr (by omega),?_⟩
     have a := x6 (ws := ws) (v := (wid ws:Int) + j) (v' := (w:Int)) y (fit _ (by omega))
     have b := qL e ((wid ws:Int) + j)
     omega
   · rintro ⟨a,b,c⟩
     have b := YW.mp b
     by_cases t:(w:Int) <= total ws
     · refine ⟨w - wid ws,by omega,by omega,?_⟩
       rw [show (wid ws:Int) + ((w - wid ws:Nat):Int) = (w:Int) by omega]
       omega
     · refine ⟨(total ws - wid ws).toNat,Nat.le_refl _,by omega,?_⟩
       have := ZP (ws := ws) ((wid ws:Int) + ((total ws - wid ws).toNat:Int)) (by omega)
       omega
end Sta
namespace Sta
open Tre Lin
mutual
inductive HasR (Ls:List R):T -> R -> Prop where
 | leaf {i:Int} {P:R} (h0:0 <= i) (h:Ls[i.toNat]? = some P):HasR Ls (.int i) P
 | bar {ps:List T} {P:R} {Ps:List R} (h:zK Ls ps (P :: Ps)):HasR Ls (.tup [.str bar,.tup ps]) (Ps.foldl bes P)
 | dash {ps:List T} {P:R} {Ps:List R} (h:zK Ls ps (P :: Ps)):HasR Ls (.tup [.str dash,.tup ps]) (Ps.foldl dwn P)
inductive zK (Ls:List R):List T -> List R -> Prop where
 | nil:zK Ls [] []
 | cons {t:T} {P:R} {ts:List T} {Ps:List R} (h:HasR Ls t P) (r:zK Ls ts Ps):zK Ls (t :: ts) (P :: Ps)
end
theorem zK.len {Ls:List R}:∀ {ts:List T} {Ps:List R},zK Ls ts Ps -> ts.length = Ps.length
 | _,_,.nil => rfl
 | _,_,.cons _ r => by rw [List.length_cons,List.length_cons,r.len]
theorem zK.get {Ls:List R}:∀ {ts:List T} {Ps:List R} {i:Nat} {t:T},zK Ls ts Ps -> ts[i]? = some t -> ∃ P,Ps[i]? = some P /\ HasR Ls t P
 | _,_,_,_,.nil,e => by simp at e
 | _,_,0,_,.cons h _,e => by simp at e; subst e; exact ⟨_,rfl,h⟩
 | _,_,i + 1,t,.cons _ r,e => by
   obtain ⟨P,h1,h2⟩ := zK.get (i := i) (t := t) r (by simpa using e)
   exact ⟨P,by simpa using h1,h2⟩
mutual
theorem Zh {Ls:List R}:∀ {t:T} {n:List Int},Good t n -> (∀ i ∈ n,0 <= i /\ i < (Ls.length:Int)) -> ∃ P,HasR Ls t P
 | _,_,.leaf i,h => by
   have := h i List.mem_cons_self
   exact ⟨_,.leaf this.1 (List.getElem?_eq_getElem (by omega))⟩
 | _,_,.node (k := k) (ps := ps) hk h2 hn hl,h => by
   obtain ⟨Ps,hP⟩ := YX hl h
   have ln := hP.len
   cases Ps with
   | nil => rw [List.length_nil] at ln; omega
   | cons P Ps =>
     rcases hk with e | e
     · rw [e]
       exact ⟨_,.bar hP⟩
     · rw [e]
       exact ⟨_,.dash hP⟩
theorem YX {Ls:List R}:∀ {ts:List T} {nss:List (List Int)},zG ts nss -> (∀ i ∈ nss.flatten,0 <= i /\ i < (Ls.length:Int)) -> ∃ Ps,zK Ls ts Ps
 | _,_,.nil,_ => ⟨[],.nil⟩
 | _,_,.cons h r,hn => by
   obtain ⟨P,hP⟩ := Zh h fun i hi => hn i (by rw [List.flatten_cons]; exact List.mem_append_left _ hi)
   obtain ⟨Ps,hPs⟩ := YX r fun i hi => hn i (by rw [List.flatten_cons]; exact List.mem_append_right _ hi)
   exact ⟨P :: Ps,.cons hP hPs⟩
end
theorem Zi {f:R -> R -> R} (hf:∀ P Q,Up P -> Up Q -> Up (f P Q)):∀ (Ps:List R) (P:R),Up P -> (∀ Q ∈ Ps,Up Q) -> Up (Ps.foldl f P)
 | [],P,h,_ => h
 | Q :: Ps,P,h,k => Zi hf Ps (f P Q) (hf P Q h (k Q List.mem_cons_self)) fun U hU => k U (List.mem_cons_of_mem _ hU)
mutual
theorem HasR.up {Ls:List R} (hL:∀ L ∈ Ls,Up L):∀ {t:T} {P:R},HasR Ls t P -> Up P
 | _,_,.leaf _ h => hL _ (List.mem_of_getElem? h)
 | _,_,.bar h => Zi (fun _ _ a b => YT a b) _ _ (zK.up hL h _ List.mem_cons_self) fun Q hQ => zK.up hL h Q (List.mem_cons_of_mem _ hQ)
 | _,_,.dash h => Zi (fun _ _ a b => YU a b) _ _ (zK.up hL h _ List.mem_cons_self) fun Q hQ => zK.up hL h Q (List.mem_cons_of_mem _ hQ)
theorem zK.up {Ls:List R} (hL:∀ L ∈ Ls,Up L):∀ {ts:List T} {Ps:List R},zK Ls ts Ps -> ∀ P ∈ Ps,Up P
 | _,_,.nil,P,hP => (List.not_mem_nil hP).elim
 | _,_,.cons h r,P,hP => by
   rcases List.mem_cons.mp hP with e | e
   · rw [e]; exact HasR.up hL h
   · exact zK.up hL r P e
end
theorem Qa {i:Int} {n:List Int} (g:Good (.int i) n):n = [i] := by
 cases g
 rfl
theorem ZW {k:PySem.Str} {ps:List T} {n:List Int} (g:Good (.tup [.str k,.tup ps]) n):∃ nss,n = nss.flatten /\ zG ps nss := by
 cases g with
 | node _ _ _ h => exact ⟨_,rfl,h⟩
theorem Qb {n:List (List Int)} (g:zG [] n):n = [] := by
 cases g
 rfl
theorem X8 {t:T} {ts:List T} {n:List (List Int)} (g:zG (t :: ts) n):∃ a r,n = a :: r /\ Good t a /\ zG ts r := by
 cases g with
 | cons h r => exact ⟨_,_,rfl,h,r⟩
def OkS (A:S) (P:R):Prop := Ok A /\ Same (reg A) P
inductive OkSs:List S -> List R -> Prop where
 | nil:OkSs [] []
 | cons {A:S} {P:R} {As:List S} {Ps:List R} (h:OkS A P) (r:OkSs As Ps):OkSs (A :: As) (P :: Ps)
theorem OkSs.snoc:∀ {As:List S} {Ps:List R} {A:S} {P:R},OkSs As Ps -> OkS A P -> OkSs (As ++ [A]) (Ps ++ [P])
 | _,_,_,_,.nil,h => .cons h .nil
 | _,_,_,_,.cons k r,h => .cons k (OkSs.snoc r h)
theorem OkSs.get:∀ {As:List S} {Ps:List R} {i:Nat} {P:R},OkSs As Ps -> Ps[i]? = some P -> ∃ A,As[i]? = some A /\ OkS A P
 | _,_,_,_,.nil,e => by simp at e
 | _,_,0,_,.cons h _,e => by simp at e; subst e; exact ⟨_,rfl,h⟩
 | _,_,i + 1,P,.cons _ r,e => by
   obtain ⟨A,h1,h2⟩ := OkSs.get (i := i) (P := P) r (by simpa using e)
   exact ⟨A,by simpa using h1,h2⟩
theorem jw:∀ {As:List S} {Ps:List R} {A:S} {P:R},OkSs As Ps -> OkS A P -> OkS (As.foldl sbs A) (Ps.foldl bes P)
 | _,_,_,_,.nil,h => h
 | _,_,A,P,.cons (A := B) (P := Q) k r,h => by
   rw [List.foldl_cons,List.foldl_cons]
   exact jw (A := sbs A B) (P := bes P Q) r ⟨zbm _ _ h.1 k.1,(zan h.1 k.1).trans (Jd h.2 k.2)⟩
def tr (P:R):R := fun w h => P h w
theorem OkS.exch {A:S} {P:R} (h:OkS A P):OkS (exch A) (tr P) := ⟨zao h.1,fun w k => (Je A w k).trans (h.2 k w)⟩
theorem OkSs.exch:∀ {As:List S} {Ps:List R},OkSs As Ps -> OkSs (As.map Sta.exch) (Ps.map tr)
 | _,_,.nil => .nil
 | _,_,.cons h r => .cons h.exch (OkSs.exch r)
theorem XE:∀ (Ps:List R) (P:R),tr ((Ps.map tr).foldl bes (tr P)) = Ps.foldl dwn P
 | [],P => rfl
 | Q :: Ps,P => XE Ps (dwn P Q)
theorem zaq (A B:S):(sbs A B).length <= A.length + B.length := by
 refine ind' (C := fun A B => (sbs A B).length <= A.length + B.length) (fun b => ?_) (fun a as => ?_) (fun a as b bs i1 i2 i3 => ?_) A B
 · rw [qY]; exact Nat.zero_le _
 · rw [w5]; exact Nat.zero_le _
 · rw [x8,List.length_cons,List.length_cons,List.length_cons]
   rw [List.length_cons] at i2 i3
   split
   · split <;> omega
   · omega
theorem w6:∀ (As:List S) (A:S),(As.foldl sbs A).length <= A.length + (As.map List.length).sum
 | [],A => Nat.le_refl _
 | B :: As,A => by
   have := w6 As (sbs A B)
   have := zaq A B
   rw [List.foldl_cons,List.map_cons,List.sum_cons]
   omega
theorem jx (A:S):(exch A).length = A.length := by
 unfold exch
 rw [List.length_map,List.length_reverse]
theorem Qc (As:List S):(As.map exch).map List.length = As.map List.length := by
 rw [List.map_map]
 exact List.map_congr_left fun A _ => jx A
end Sta
namespace L2
open PySem PySem.Spec PyProof.Rows
section
variable {g:TG} {tc:TT} {te:TE} {σ0:St} {H0:Hp} {R:List V -> Hp -> Prop} {K:PySem.W.Frag} {a:Addr} {xs:List V}
theorem zar (Pv:Nat -> List V -> St -> Hp -> Prop) (h0:Pv 0 [] σ0 H0) (hz:∀ i ys σ H,i <= xs.length -> Pv i ys σ H -> ys.length <= sizeLine /\ SqL K H a xs) (hst:∀ ys σ H,Pv xs.length ys σ H -> R ys H)
   (hgo:∀ i x ys σ H,i < xs.length -> xs[xs.length - 1 - i]? = some x -> Pv i ys σ H -> g x σ H fun σ2 H3 => tc σ2 H3 fun b H4 => if b = true then te σ2 H4 fun y H5 => Pv (i + 1) (ys ++ [y]) σ2 H5 else Pv (i + 1) ys σ2 H4) :
   ∃ W:Nat -> Nat -> List V -> St -> Hp -> Prop,(∃ m,W 0 m [] σ0 H0) /\ ∀ i m ys σ' H',W i m ys σ' H' ->
     ((ItR K a xs.length).stop i H' /\ ys.length <= sizeLine /\ R ys H') \/
     ((ItR K a xs.length).go i H' /\ ys.length <= sizeLine /\ ∃ N:List V -> St -> Hp -> Prop,(∀ ys' σ2 H2,N ys' σ2 H2 -> ∃ m',m' < m /\ W (i + 1) m' ys' σ2 H2) /\
       ∀ x H2,(ItR K a xs.length).yld i H' x H2 -> g x σ' H2 fun σ2 H3 => tc σ2 H3 fun b H4 => if b = true then te σ2 H4 fun y H5 => N (ys ++ [y]) σ2 H5 else N ys σ2 H4) :=
 xQ (n := xs.length) Pv h0 (fun i ys σ H hi p => (hz i ys σ H hi p).1) (fun ys σ H p => ⟨Nat.le_refl _,hst ys σ H p⟩)
   fun i ys σ H hi p => ⟨⟨hi,xs,(hz i ys σ H (Nat.le_of_lt hi) p).2,rfl⟩,fun x H2 y => by
     obtain ⟨e,y⟩ := y
     subst e
     exact hgo i x ys σ _ hi (y xs (hz i ys σ _ (Nat.le_of_lt hi) p).2) p⟩
end
def GT (mg:Str -> Option Value) (x:Str) (v:Str):Prop := ∃ t,mg x = some (.str v t)
theorem JG {X:Cx} {x v:Str} {pos:Pos} (hg:Gl X x) (h:GT X.mg x v) (hd:(x == ("__debug__" : Str)) = false := by decide):PE X (.Name x pos) (tC (.str v)) := by
 obtain ⟨t,h⟩ := h
 exact j4 hg h ⟨t,rfl⟩ hd
end L2
namespace L2
open PySem
end L2
namespace L2
open PySem
end L2
namespace L2
open PySem
theorem qf {X:Cx} {K:PySem.W.Frag} (hK:X.K = K):yx X (.type "list") (fun xs H Q => ∃ p ys,xs = [.ref p] /\ (SqL K H p ys \/ SqT K H p ys) /\ ∀ l,H l = none -> Q (.ref l) (upd H l (.lst ys))) := by
 subst hK
 exact Ym
end L2
namespace JI
open PySem L2 Lin Tre PySem.W
open Sta (R Ok sbs exch reg OkS OkSs stN)
abbrev Stc := Sta.S
def JT (H:Hp) (x:V) (b:Bool):Prop := (∃ (a:Addr) (xs:List V) (bs:List Bool),x = .ref a /\ H a = some (.lst xs) /\ JWs H xs bs /\ xs.length <= 1000 /\ b = (bs.all id && decide (xs.length <= 40))) \/ (b = false /\ NoL H x)
theorem JT.same {H H':Hp} (S:Same H H') {x:V} {b:Bool} (h:JT H x b):JT H' x b := by
 rcases h with ⟨a,xs,bs,e,h1,h2,h3,h4⟩ | ⟨e,h⟩
 · exact .inl ⟨a,xs,bs,e,S _ _ h1,h2.same S,h3,h4⟩
 · exact .inr ⟨e,h.same S⟩
def JTs (H:Hp):List V -> List Bool -> Prop := Paired (JT H)
theorem JTs.same {H H':Hp} (S:Same H H'):∀ {vs:List V} {bs:List Bool},JTs H vs bs -> JTs H' vs bs
 | _,_,.nil => .nil
 | _,_,.cons h t => .cons (h.same S) (JTs.same S t)
theorem JTs.len {H:Hp} {vs:List V} {bs:List Bool} (h:JTs H vs bs):vs.length = bs.length := Paired.length h
theorem JTs.get {H:Hp}:∀ {vs:List V} {bs:List Bool} {i:Nat} {v:V},JTs H vs bs -> vs[i]? = some v -> ∃ b,bs[i]? = some b /\ JT H v b
 | _,_,_,_,.nil,e => by simp at e
 | _,_,0,_,.cons r _,e => by simp at e; subst e; exact ⟨_,rfl,r⟩
 | _,_,i + 1,v,.cons _ t,e => by
   obtain ⟨p,h1,h2⟩ := JTs.get (i := i) (v := v) t (by simpa using e)
   exact ⟨p,by simpa using h1,h2⟩
def Tx (H:Hp) (v:V) (ws:List W):Prop := ∃ a,v = .ref a /\ H a = some (.lst (tx ws)) /\ (∀ u ∈ ws,okW u) /\ ws.length <= 40
theorem Tx.same {H H':Hp} (S:Same H H') {v:V} {ws:List W} (h:Tx H v ws):Tx H' v ws := let ⟨a,e,z,r⟩ := h; ⟨a,e,S _ _ z,r⟩
def Txs (H:Hp):List V -> List (List W) -> Prop := Paired (Tx H)
theorem Txs.same {H H':Hp} (S:Same H H'):∀ {vs:List V} {ts:List (List W)},Txs H vs ts -> Txs H' vs ts
 | _,_,.nil => .nil
 | _,_,.cons h t => .cons (h.same S) (Txs.same S t)
theorem Txs.len {H:Hp} {vs:List V} {ts:List (List W)} (h:Txs H vs ts):vs.length = ts.length := Paired.length h
theorem Txs.get {H:Hp}:∀ {vs:List V} {ts:List (List W)} {i:Nat} {v:V},Txs H vs ts -> vs[i]? = some v -> ∃ t,ts[i]? = some t /\ Tx H v t
 | _,_,_,_,.nil,e => by simp at e
 | _,_,0,_,.cons r _,e => by simp at e; subst e; exact ⟨_,rfl,r⟩
 | _,_,i + 1,v,.cons _ t,e => by
   obtain ⟨p,h1,h2⟩ := Txs.get (i := i) (v := v) t (by simpa using e)
   exact ⟨p,by simpa using h1,h2⟩
theorem Txs.snoc {H:Hp} {vs:List V} {ts:List (List W)} {v:V} {t:List W} (h:Txs H vs ts) (r:Tx H v t):Txs H (vs ++ [v]) (ts ++ [t]) := Paired.snoc h r
theorem Tx.jt {H:Hp} {v:V} {ws:List W} (h:Tx H v ws):JT H v true := by
 obtain ⟨a,e,z,hw,l⟩ := h
 refine .inl ⟨a,_,_,e,z,jq hw,by rw [zT]; omega,?_⟩
 rw [zT,decide_eq_true l]
 simp
theorem Txs.jts {H:Hp}:∀ {vs:List V} {ts:List (List W)},Txs H vs ts -> JTs H vs (List.replicate vs.length true)
 | _,_,.nil => .nil
 | _,_,.cons h t => .cons h.jt (Txs.jts t)
def StAt (H:Hp) (v:V) (p:Nat × Nat):Prop := ∃ a,v = .ref a /\ H a = some (.tup [.int (p.1:Int),.int (p.2:Int)])
def zQ (H:Hp):List V -> Stc -> Prop := Paired (StAt H)
theorem StAt.same {H H':Hp} (S:Same H H') {v:V} {p:Nat × Nat} (h:StAt H v p):StAt H' v p := let ⟨a,e,z⟩ := h; ⟨a,e,S _ _ z⟩
theorem zQ.same {H H':Hp} (S:Same H H'):∀ {vs:List V} {ps:Stc},zQ H vs ps -> zQ H' vs ps
 | _,_,.nil => .nil
 | _,_,.cons h t => .cons (h.same S) (zQ.same S t)
theorem zQ.len {H:Hp} {vs:List V} {ps:Stc} (h:zQ H vs ps):vs.length = ps.length := Paired.length h
theorem zQ.get {H:Hp}:∀ {vs:List V} {ps:Stc} {i:Nat} {p:Nat × Nat},zQ H vs ps -> ps[i]? = some p -> ∃ v,vs[i]? = some v /\ StAt H v p
 | _,_,_,_,.nil,e => by simp at e
 | _,_,0,_,.cons r _,e => by simp at e; subst e; exact ⟨_,rfl,r⟩
 | _,_,i + 1,p,.cons _ t,e => by
   obtain ⟨v,h1,h2⟩ := zQ.get (i := i) (p := p) t (by simpa using e)
   exact ⟨v,by simpa using h1,h2⟩
theorem zQ.get' {H:Hp}:∀ {vs:List V} {ps:Stc} {i:Nat} {v:V},zQ H vs ps -> vs[i]? = some v -> ∃ p,ps[i]? = some p /\ StAt H v p
 | _,_,_,_,.nil,e => by simp at e
 | _,_,0,_,.cons r _,e => by simp at e; subst e; exact ⟨_,rfl,r⟩
 | _,_,i + 1,v,.cons _ t,e => by
   obtain ⟨p,h1,h2⟩ := zQ.get' (i := i) (v := v) t (by simpa using e)
   exact ⟨p,by simpa using h1,h2⟩
theorem zQ.snoc {H:Hp} {vs:List V} {ps:Stc} {v:V} {p:Nat × Nat} (h:zQ H vs ps) (r:StAt H v p):zQ H (vs ++ [v]) (ps ++ [p]) := Paired.snoc h r
theorem zQ.upd {H:Hp} {l:Addr} {xs:List V} {o':HO} (hl:H l = some (.lst xs)):∀ {vs:List V} {ps:Stc},zQ H vs ps -> zQ (upd H l o') vs ps
 | _,_,.nil => .nil
 | _,_,.cons ⟨a,e,z⟩ t => .cons ⟨a,e,by rw [zp (y9 z hl (by intro y; cases y))]; exact z⟩ (zQ.upd hl t)
theorem yf.sts {H:Hp}:∀ {vs:List V} {ps:List (Int × Nat)},yf H vs ps -> (∀ p ∈ ps,0 <= p.1) -> zQ H vs (ps.map fun p => (p.1.toNat,p.2))
 | _,_,.nil,_ => .nil
 | _,_,.cons (b := p) ⟨a,e,z⟩ t,h => by
   refine .cons ⟨a,e,?_⟩ (yf.sts t fun p hp => h p (List.mem_cons_of_mem _ hp))
   have := h p List.mem_cons_self
   rw [z]
   show some (HO.tup [V.int p.1,V.int (p.2:Int)]) = some (HO.tup [V.int ((p.1.toNat:Nat):Int),V.int (p.2:Int)])
   rw [Int.toNat_of_nonneg this]
def BsAt (H0 H:Hp) (v:V) (A:Stc):Prop := ∃ l us,v = .ref l /\ H0 l = none /\ H l = some (.lst us) /\ zQ H us A
def yg (H0 H:Hp):List V -> List Stc -> Prop := Paired (BsAt H0 H)
theorem BsAt.same {H0 H H':Hp} (S:Same H H') {v:V} {A:Stc} (h:BsAt H0 H v A):BsAt H0 H' v A := let ⟨l,us,e,n,z,s⟩ := h; ⟨l,us,e,n,S _ _ z,s.same S⟩
theorem yg.same {H0 H H':Hp} (S:Same H H'):∀ {vs:List V} {As:List Stc},yg H0 H vs As -> yg H0 H' vs As
 | _,_,.nil => .nil
 | _,_,.cons h t => .cons (h.same S) (yg.same S t)
theorem yg.len {H0 H:Hp} {vs:List V} {As:List Stc} (h:yg H0 H vs As):vs.length = As.length := Paired.length h
theorem yg.get {H0 H:Hp}:∀ {vs:List V} {As:List Stc} {i:Nat} {A:Stc},yg H0 H vs As -> As[i]? = some A -> ∃ v,vs[i]? = some v /\ BsAt H0 H v A
 | _,_,_,_,.nil,e => by simp at e
 | _,_,0,_,.cons r _,e => by simp at e; subst e; exact ⟨_,rfl,r⟩
 | _,_,i + 1,p,.cons _ t,e => by
   obtain ⟨v,h1,h2⟩ := yg.get (i := i) (A := p) t (by simpa using e)
   exact ⟨v,by simpa using h1,h2⟩
theorem yg.get' {H0 H:Hp}:∀ {vs:List V} {As:List Stc} {i:Nat} {v:V},yg H0 H vs As -> vs[i]? = some v -> ∃ A,As[i]? = some A /\ BsAt H0 H v A
 | _,_,_,_,.nil,e => by simp at e
 | _,_,0,_,.cons r _,e => by simp at e; subst e; exact ⟨_,rfl,r⟩
 | _,_,i + 1,v,.cons _ t,e => by
   obtain ⟨p,h1,h2⟩ := yg.get' (i := i) (v := v) t (by simpa using e)
   exact ⟨p,by simpa using h1,h2⟩
theorem yg.snoc {H0 H:Hp} {vs:List V} {As:List Stc} {v:V} {A:Stc} (h:yg H0 H vs As) (r:BsAt H0 H v A):yg H0 H (vs ++ [v]) (As ++ [A]) := Paired.snoc h r
def YY:Sp := fun vs H Q _ => ∃ (x:V) (b:Bool),vs = [x] /\ JT H x b /\ ∀ H',Same H H' -> Q (.bl b) H'
def Z7 (C4 C6:Addr):Sp := fun vs H Q E => ∃ (x y:V) (t:T),vs = [x,y] /\ At H x t /\ sz t <= 1000 /\
 ((∃ (n:List Int) (a:Addr) (xs:List V) (bs:List Bool),z4 t /\ Good t n /\ y = .ref a /\ H a = some (.lst xs) /\ JTs H xs bs /\ xs.length <= 1000 /\ ((xs.length = n.length /\ bs.all id = true /\ ∀ H',Same H H' -> Q .non H') \/ ((xs.length ≠ n.length \/ bs.all id = false) /\ ∀ H',Same H H' -> E (.ref C6) none H'))) \/
  (z4 t /\ NoL H y /\ ∀ H',Same H H' -> E (.ref C6) none H') \/ (¬ z4 t /\ ∀ H',Same H H' -> E (.ref C4) none H'))
def X9:Sp := fun vs H Q _ => ∃ (a b:Addr) (us ws:List V) (A B:Stc),vs = [.ref a,.ref b] /\ H a = some (.lst us) /\ H b = some (.lst ws) /\ zQ H us A /\ zQ H ws B /\ A.length + B.length <= 1000000 /\
 ∀ (l:Addr) (rs:List V) (H':Hp),Same H H' -> H l = none -> H' l = some (.lst rs) -> zQ H' rs (sbs A B) -> Q (.ref l) H'
def Z8:Sp := fun vs H Q _ => ∃ (a:Addr) (us:List V) (A:Stc) (As:List Stc) (H0:Hp),vs = [.ref a] /\ H a = some (.lst us) /\ yg H0 H us (A :: As) /\ Same H0 H /\ A.length + (As.map List.length).sum <= 1000000 /\ As.length <= 1000 /\
 ∀ (l:Addr) (rs:List V) (H':Hp),Same H H' -> H0 l = none -> H' l = some (.lst rs) -> zQ H' rs (As.foldl sbs A) -> Q (.ref l) H'
def jU:Sp := fun vs H Q _ => ∃ (a:Addr) (us:List V) (A:Stc),vs = [.ref a] /\ H a = some (.lst us) /\ zQ H us A /\ A.length <= 1000000 /\
 ∀ (l:Addr) (rs:List V) (H':Hp),Same H H' -> H l = none -> H' l = some (.lst rs) -> zQ H' rs (exch A) -> Q (.ref l) H'
def Z9:Sp := fun vs H Q _ => ∃ (a:Addr) (us:List V) (wss:List (List W)),vs = [.ref a] /\ H a = some (.lst us) /\ Txs H us wss /\ wss.length <= 1000 /\
 ∀ (l:Addr) (rs:List V) (H':Hp),Same H H' -> H l = none -> H' l = some (.lst rs) -> yg H H' rs (wss.map stN) -> Q (.ref l) H'
structure Ns (K:PySem.W.Frag) (mg:Str -> Option Value):Prop where
 gWIDE:GI mg "WIDE" 0
 gHIGH:GI mg "HIGH" 1
 gMOST_WORDS:GI mg "MOST_WORDS" 40
 gACROSS:GT mg "ACROSS" "|"
 tl:mg "len" = none
 ti:mg "isinstance" = none
 tlist:mg "list" = none
 tall:mg "all" = none
 tmax:mg "max" = none
 trev:mg "reversed" = none
 kNl:PySem.W.kitOne K (.type "NoneType") (.type "list") = some false
 kSl:PySem.W.kitOne K (.type "str") (.type "list") = some false
 kIl:PySem.W.kitOne K (.type "int") (.type "list") = some false
 kTl:PySem.W.kitOne K (.type "tuple") (.type "list") = some false
 kDl:PySem.W.kitOne K (.type "dict") (.type "list") = some false
 kBl:PySem.W.kitOne K (.type "bool") (.type "list") = some false
theorem NoL.tyS {K:PySem.W.Frag} {mg:Str -> Option Value} (Z:Ns K mg) {H:Hp} {x:V} (h:NoL H x):∃ t,TyX K H x t /\ PySem.W.kitOne K t (.type "list") = some false := by
 cases h with
 | non => exact ⟨_,.of .non,Z.kNl⟩
 | bl b => exact ⟨_,.of (.bl b),Z.kBl⟩
 | int i => exact ⟨_,.of (.int i),Z.kIl⟩
 | str x => exact ⟨_,.of (.str x),Z.kSl⟩
 | tup e => exact ⟨_,.of (.tup e),Z.kTl⟩
 | dK e => exact ⟨_,.of (.dK e),Z.kDl⟩
section
variable {P:Program} {w:World} {K:PySem.W.Frag} {mg:Str -> Option Value} {base:Heap} {kA:Addr}
theorem zbo:zu ["thing"] ["thing"] (ze qT) := ⟨rfl,rfl,rfl,by decide +kernel,rfl,by decide +kernel,by decide +kernel⟩
theorem zas {f fA:Addr} {fd dA:FuncData} (F:Fun K "is_text" "is_text" qT f fd) (Z:Ns K mg) (Ar:Callee P w K mg base CX0 3 "are_words" fA dA ["things"] Z4):FnOk P w K mg base CX0 4 f fd ["thing"] YY := by
 obtain ⟨gWIDE,gHIGH,gMOST_WORDS,gACROSS,tl,ti,tlist,tall,tmax,trev,_,_,_,_,_,_⟩ := Z
 refine F.ok zbo (fun vs H Q E h => ?_) (fun cdv A outer s H vs Q E hr h => ?_)
 · obtain ⟨x,b,rfl,_⟩ := h
   rfl
 · obtain ⟨x,b,rfl,hJ,q⟩ := h
   refine ⟨_,(zg (zn (xt (zj Ar.ok hr rfl Ar.bound Ar.kp Ar.bd .nil zB (za (pv 0) zb)) (xW (yJ wb (zi zm (by rfl) tl PySem.boot_len (za (pv 0) zb)) (zJ rfl gMOST_WORDS) (zE _)))))),?_⟩
   rcases hJ with ⟨a,xs,bs,rfl,ha,hw,hl,rfl⟩ | ⟨rfl,hn⟩
   · refine ⟨_,rfl,_,rfl,.inl ⟨a,xs,bs,rfl,ha,hw,hl,fun H1 S1 => ⟨_,rfl,?_⟩⟩⟩
     have qq := q H1 S1
     cases e:bs.all id with
     | false =>
       rw [e] at qq
       exact iteF qq
     | true =>
       rw [e] at qq
       refine iteT ⟨_,rfl,a,xs,rfl,.inl (SqL.of (S1 _ _ ha)),_,_,rfl,rfl,?_⟩
       have e2:decide ((xs.length:Int) <= 40) = decide (xs.length <= 40) := by rw [decide_eq_decide]; omega
       show Q (.bl (decide ((xs.length:Int) <= 40))) H1
       rw [e2]
       exact qq
   · exact ⟨_,rfl,_,rfl,.inr ⟨hn,_,rfl,iteF (q H (Same.refl _))⟩⟩
theorem JH:zu ["tree","texts","many"] ["tree","texts"] (ze sRTx) := ⟨rfl,rfl,rfl,by decide +kernel,rfl,by decide +kernel,by decide +kernel⟩
theorem zbp {f fB fI C4 C6:Addr} {fd dB dI:FuncData} (F:Fun K "refuse_no_texts" "refuse_no_texts" sRTx f fd) (Z:Ns K mg) (ex:Exc K mg "NoTexts" C6) (Bo:Callee P w K mg base (CXE P w) 7 "boxes_of" fB dB ["tree"] (Zg C4)) (It:Callee P w K mg base CX0 4 "is_text" fI dI ["thing"] YY) :
   FnOk P w K mg base (CXE P w) 8 f fd ["tree","texts"] (Z7 C4 C6) := by
 have Z0 := Z
 obtain ⟨gWIDE,gHIGH,gMOST_WORDS,gACROSS,tl,ti,tlist,tall,tmax,trev,_,_,_,_,_,_⟩ := Z
 refine F.okE JH (fun vs H Q E h => ?_) (fun cdv A outer s H vs Q E hr hh h => ?_)
 · obtain ⟨x,y,t,rfl,_⟩ := h
   rfl
 · obtain ⟨x,y,t,rfl,hA,hz,h⟩ := h
   refine ⟨_,(zd (zx (i := 2) JH.nd rfl (Or.inl rfl) (zj Bo.ok hr rfl Bo.bound Bo.kp Bo.bd .nil y3 (za (pv 0) zb)))
     (zd (zO (PW.pt (yH (yB (yl (zi yh (by rfl) ti PyProof.Rows.boot_isinstance (za (pv 1) (za (yw rfl tlist PyProof.Rows.boot_list) zb))))) (yR (zC Jz (zi zm (by rfl) tl PySem.boot_len (za (pv 1) zb)) (pv 2) (zE _)))))
     (zg (xm ex hh rfl (za yd zb)))
     zH)
     (zg (zO (yB (yl (zi (qo rfl) (by rfl) tall PyProof.Rows.boot_all (za (z9 (Nc := ["text"]) (ix := [none]) rfl rfl (by refine' yi ?zz; case zz => exact (pv 1)) (fun _ _ _ _ _ => (zr (i := 0) (by show (["text"]:List Str).Nodup; decide +kernel) rfl (Or.inl rfl))) (fun _ _ _ _ _ => zX) (fun _ _ _ _ _ => (zj It.ok (hr.mono (show 4 <= 7 by decide)) rfl It.bound It.kp It.bd .nil zB (za (pv 0) zb)))) zb))))
     (zg (xm ex hh rfl (za yd zb)))
     zH)))),?_⟩
   rcases h with ⟨n,a,xs,bs,iT,g,rfl,ha,hJ,hl,h⟩ | ⟨iT,hn,qe⟩ | ⟨nT,qe⟩
   · refine ⟨_,rfl,x,t,rfl,hA,hz,.inl ⟨n,iT,g,fun H1 S1 => ?_⟩⟩
     refine ⟨_,rfl,_,_,_,_,rfl,rfl,.of (.lst (S1 _ _ ha)),rfl,_,rfl,iteF ?_⟩
     refine ⟨_,rfl,a,xs,rfl,.inl (SqL.of (S1 _ _ ha)),_,rfl,rfl,_,rfl,?_⟩
     have el:(!decide (V.int (xs.length:Int) = V.int (n.length:Int))) = decide (xs.length ≠ n.length) := by
       by_cases e:xs.length = n.length
       · rw [e]; simp
       · rw [decide_eq_true e,decide_eq_false fun z => e (by injection z with z; omega)]
         rfl
     rw [el]
     by_cases en:xs.length = n.length
     · rw [decide_eq_false (fun z => z en)]
       refine iteF ?_
       refine zY ?_
       dsimp only
       have hJ1 := hJ.same S1
       have lb := hJ.len
       refine ⟨_,rfl,a,rfl,⟨_,SqL.of (S1 _ _ ha)⟩,yv (K := K) (a := a) (xs := xs) (fun i ys σ H' => ys = (bs.take i).map V.bl /\ Same H H' /\ ∃ o,σ = [o]) ⟨rfl,S1,none,rfl⟩
         (fun i ys σ H' hi ⟨e,S,_⟩ => ⟨by rw [e,List.length_map,List.length_take]; exact Nat.le_trans (show _ <= 1000 by omega) (by decide),SqL.of (S _ _ ha)⟩) ?_ ?_⟩
       case refine_2 =>
         rintro i v ys σ H' hx ⟨rfl,S,o,rfl⟩
         obtain ⟨b,hb,hj⟩ := hJ.get hx
         obtain ⟨hil,ev⟩ := List.getElem?_eq_some_iff.mp hb
         dsimp only [z6,tYes]
         refine iteT ?_
         refine ⟨_,rfl,v,b,rfl,hj.same S,fun H2 S2 => ⟨?_,S.trans S2,_,rfl⟩⟩
         rw [<- List.take_append_getElem hil,ev,List.map_append]
         rfl
       rintro ys σ H2 ⟨rfl,S2,_⟩ pl npl
       rw [lb,List.take_length]
       have S3 := S2.trans (zf (o := .lst (bs.map V.bl)) npl)
       refine ⟨pl,bs,rfl,SqL.of zc,_,rfl,?_⟩
       rcases h with ⟨_,eb,q⟩ | ⟨eb,qe⟩
       · rw [eb]
         exact iteF (q _ S3)
       · rw [eb.resolve_left (fun z => z en)]
         exact iteT ⟨by show 1 <= sizeLine; decide,qe _ S3⟩
     · rw [decide_eq_true en]
       rcases h with ⟨z,_⟩ | ⟨_,qe⟩
       · exact absurd z en
       · exact iteT ⟨by show 1 <= sizeLine; decide,qe H1 S1⟩
   · obtain ⟨m,gm,_⟩ := iT
     refine ⟨_,rfl,x,t,rfl,hA,hz,.inl ⟨m,⟨m,gm,‹_›⟩,gm,fun H1 S1 => ?_⟩⟩
     obtain ⟨ty,h1,h2⟩ := (hn.same S1).tyS Z0
     exact ⟨_,rfl,_,_,_,_,rfl,rfl,h1,h2,_,rfl,iteT (iteT ⟨by show 1 <= sizeLine; decide,qe H1 S1⟩)⟩
   · exact ⟨_,rfl,x,t,rfl,hA,hz,.inr ⟨nT,qe⟩⟩
end
end JI
namespace JI
open PySem L2 Lin Tre PySem.W
open Sta (R Ok sbs exch reg OkS OkSs stN)
theorem Qd {ws:List W} (h:∀ u ∈ ws,okW u):pos ws ws.length <= 13 * (ws.length:Int) := by
 rw [<- XB]
 have:∀ l:List W,(∀ u ∈ l,okW u) -> (l.map fun u => (u.length:Int)).sum <= 12 * (l.length:Int) := by
   intro l
   induction l with
   | nil => intro _; decide
   | cons a r ih =>
     intro h
     have := ih fun u hu => h u (List.mem_cons_of_mem _ hu)
     have := (h a List.mem_cons_self).2.1
     rw [List.map_cons,List.sum_cons,List.length_cons]
     omega
 have := this ws h
 omega
theorem XF {ws:List W} (h:∀ u ∈ ws,okW u) (h40:ws.length <= 40):(stN ws).length <= 600 := by
 unfold stN xy
 rw [List.length_map]
 split
 · show 1 <= 600
   decide
 · have := qw (c := cnt ws) (lo := (wid ws:Int)) (total ws - wid ws).toNat
   have := Qd h
   unfold total at *
   omega
theorem Ya {us:List V} {i:Nat} {v:V} (h:us[i]? = some v):atI us (i:Int) = some v := yA h
section
variable {P:Program} {w:World} {K:PySem.W.Frag} {mg:Str -> Option Value} {base:Heap} {kA:Addr}
theorem wf:zu ["one","other","stairs","first","second","wide","high"] ["one","other"] (ze sSbs) := ⟨rfl,rfl,rfl,by decide +kernel,rfl,by decide +kernel,by decide +kernel⟩
theorem zbq {f:Addr} {fd:FuncData} (F:Fun K "side_by_side" "side_by_side" sSbs f fd) (Z:Ns K mg):FnOk P w K mg base CX0 1 f fd ["one","other"] X9 := by
 obtain ⟨gWIDE,gHIGH,gMOST_WORDS,gACROSS,tl,ti,tlist,tall,tmax,trev,_,_,_,_,_,_⟩ := Z
 refine F.ok wf (fun vs H Q E h => ?_) (fun cdv A outer s H vs Q E hr h => ?_)
 · obtain ⟨a,b,us,ws,A,B,rfl,_⟩ := h
   rfl
 · obtain ⟨a,b,us,ws,A1,B1,rfl,ha,hb,hA,hB,hn,q⟩ := h
   refine ⟨_,(zd (zx (i := 2) wf.nd rfl (Or.inl rfl) (zV zb))
     (zd (zx (i := 3) wf.nd rfl (Or.inl rfl) zh)
     (zd (zx (i := 4) wf.nd rfl (Or.inl rfl) zh)
     (zd (wP PassesOwn.never (PW.pt (wm (zC xv (pv 3) (zi zm (by rfl) tl PySem.boot_len (za (pv 0) zb)) (zE _)) (wk (zC xv (pv 4) (zi zm (by rfl) tl PySem.boot_len (za (pv 1) zb)) (zE _)))))
     (zd (zx (i := 5) wf.nd rfl (Or.inl rfl) (zw ya (zk zN (zk zy (pv 0) (pv 3) (fun _ _ => rfl)) (zJ rfl gWIDE) (fun _ _ => rfl)) (zk zN (zk zy (pv 1) (pv 4) (fun _ _ => rfl)) (zJ rfl gWIDE) (fun _ _ => rfl))))
       (zd (zx (i := 6) wf.nd rfl (Or.inl rfl) (zi (qi rfl) (by rfl) tmax PyProof.Rows.boot_max (za (zk zN (zk zy (pv 0) (pv 3) (fun _ _ => rfl)) (zJ rfl gHIGH) (fun _ _ => rfl)) (za (zk zN (zk zy (pv 1) (pv 4) (fun _ _ => rfl)) (zJ rfl gHIGH) (fun _ _ => rfl)) zb))))
       (zd (z8 (yz PySem.F.plainAttrs_list PySem.F.slot_list_append PySem.F.type_list_append ym (pv 2) (za (yK (za (pv 5) (za (pv 6) zb))) zb)))
       (zd (zO (zC xu (zk zN (zk zy (pv 0) (pv 3) (fun _ _ => rfl)) (zJ rfl gHIGH) (fun _ _ => rfl)) (pv 6) (zE _))
       (zg (Ws (i := 3) wf.nd rfl (Or.inl rfl) zh Wt))
       zH)
       (zg (zO (zC xu (zk zN (zk zy (pv 1) (pv 4) (fun _ _ => rfl)) (zJ rfl gHIGH) (fun _ _ => rfl)) (pv 6) (zE _))
       (zg (Ws (i := 4) wf.nd rfl (Or.inl rfl) zh Wt))
       zH)))))))
     (zg (zn (pv 2))))))),?_⟩
   have la := hA.len
   have lb := hB.len
   refine qK ⟨by show 0 <= sizeLine; decide,fun l nl => ?_⟩
   have S1 := zf (o := .lst []) nl
   have hl1:(upd H l (.lst [])) l = some (.lst []) := zc
   generalize upd H l (.lst []) = H1 at S1 hl1
   dsimp only
   refine run_seq (Zb (fun m σ H2 => ∃ (i j:Nat) (out:Stc) (rs:List V) (o5 o6:Option V),m = A1.length + B1.length - (i + j) /\ i <= A1.length /\ j <= B1.length /\ out.length <= i + j /\ out ++ sbs (A1.drop i) (B1.drop j) = sbs A1 B1 /\
     σ = [some (.ref a),some (.ref b),some (.ref l),some (.int (i:Int)),some (.int (j:Int)),o5,o6] /\ Same H H2 /\ H2 l = some (.lst rs) /\ zQ H2 rs out) _
     ⟨0,0,[],[],none,none,rfl,Nat.zero_le _,Nat.zero_le _,Nat.le_refl _,rfl,rfl,S1,hl1,.nil⟩ ?_)
   rintro m σ H2 ⟨i,j,out,rs,o5,o6,rfl,hi,hj,ho,eo,rfl,S2,hl2,hR⟩
   refine ⟨(i:Int) < (us.length:Int) /\ (j:Int) < (ws.length:Int),inferInstance,JZ (zZ (zS (zl rfl) (yu (zl rfl) (SqL.of (S2 _ _ ha))))) (zZ (zS (zl rfl) (yu (zl rfl) (SqL.of (S2 _ _ hb))))),fun c => ?_,fun c => ?_⟩
   · have hi':i < A1.length := by omega
     have hj':j < B1.length := by omega
     obtain ⟨p,ep⟩ : ∃ p,A1[i]? = some p := ⟨_,List.getElem?_eq_getElem hi'⟩
     obtain ⟨r,er⟩ : ∃ r,B1[j]? = some r := ⟨_,List.getElem?_eq_getElem hj'⟩
     obtain ⟨v,ev,pv,rfl,hpv⟩ := hA.get ep
     obtain ⟨u,eu,pu,rfl,hpu⟩ := hB.get er
     have dA:A1.drop i = p :: A1.drop (i + 1) := by rw [List.drop_eq_getElem_cons hi',(List.getElem?_eq_some_iff.mp ep).2]
     have dB:B1.drop j = r :: B1.drop (j + 1) := by rw [List.drop_eq_getElem_cons hj',(List.getElem?_eq_some_iff.mp er).2]
     have lr := hR.len
     have I1:∀ {H3:Hp} {σ:St},Same H H3 -> σ[0]? = some (some (.ref a)) -> σ[3]? = some (some (.int (i:Int))) -> Evl (tOp (rIxT K) (tOp (rIxL K) (tVar 0) (tVar 3)) (tC (.int 1))) σ H3 (.int (p.2:Int)) := fun S e1 e2 => yo (xc (zl e1) (zl e2) (SqL.of (S _ _ ha)) (Ya ev)) zU (SqT.of (S _ _ hpv)) rfl
     have I2:∀ {H3:Hp} {σ:St},Same H H3 -> σ[1]? = some (some (.ref b)) -> σ[4]? = some (some (.int (j:Int))) -> Evl (tOp (rIxT K) (tOp (rIxL K) (tVar 1) (tVar 4)) (tC (.int 1))) σ H3 (.int (r.2:Int)) := fun S e1 e2 => yo (xc (zl e1) (zl e2) (SqL.of (S _ _ hb)) (Ya eu)) zU (SqT.of (S _ _ hpu)) rfl
     refine wq (v := .int ((p.1:Int) + (r.1:Int))) (zS (yo (xc (zl rfl) (zl rfl) (SqL.of (S2 _ _ ha)) (Ya ev)) zU (SqT.of (S2 _ _ hpv)) rfl) (yo (xc (zl rfl) (zl rfl) (SqL.of (S2 _ _ hb)) (Ya eu)) zU (SqT.of (S2 _ _ hpu)) rfl)) ?_
     have em:(if (r.2:Int) > (p.2:Int) then (r.2:Int) else (p.2:Int)) = ((max p.2 r.2:Nat):Int) := by
       split <;> omega
     refine wq (v := .int ((max p.2 r.2:Nat):Int)) (by rw [<- em]; exact WM (g := fun i j => .int (if j > i then j else i)) (I1 S2 rfl rfl) (I2 S2 rfl rfl)) ?_
     refine ⟨_,rfl,.inl ⟨rfl,_,SqL.of hl2⟩,_,rfl,_,rfl,by show 2 <= sizeLine; decide,fun tp ntp => ?_⟩
     have S3 := S2.trans (zf (o := .tup [.int ((p.1:Int) + (r.1:Int)),.int ((max p.2 r.2:Nat):Int)]) ntp)
     have htp:(upd H2 tp (.tup [.int ((p.1:Int) + (r.1:Int)),.int ((max p.2 r.2:Nat):Int)])) tp = some (.tup [.int ((p.1:Int) + (r.1:Int)),.int ((max p.2 r.2:Nat):Int)]) := zc
     have hl3 := zf (o := .tup [.int ((p.1:Int) + (r.1:Int)),.int ((max p.2 r.2:Nat):Int)]) ntp _ _ hl2
     have hR3 := hR.same (zf (o := .tup [.int ((p.1:Int) + (r.1:Int)),.int ((max p.2 r.2:Nat):Int)]) ntp)
     generalize upd H2 tp (.tup [.int ((p.1:Int) + (r.1:Int)),.int ((max p.2 r.2:Nat):Int)]) = H3 at S3 htp hl3 hR3
     refine ⟨l,_,_,rfl,rfl,hl3,Nat.lt_of_le_of_lt (show rs.length <= 1000000 by omega) (by decide),?_⟩
     have S4:Same H (upd H3 l (.lst (rs ++ [.ref tp]))) := zW S3 nl
     have hl4:(upd H3 l (.lst (rs ++ [.ref tp]))) l = some (.lst (rs ++ [.ref tp])) := zc
     have ex:StAt H3 (.ref tp) (p.1 + r.1,max p.2 r.2) := ⟨tp,rfl,by rw [htp]; rfl⟩
     have hR4 := (hR3.snoc ex).upd (o' := .lst (rs ++ [.ref tp])) hl3
     generalize upd H3 l (.lst (rs ++ [.ref tp])) = H4 at S4 hl4 hR4
     have lo:(out ++ [(p.1 + r.1,max p.2 r.2)]).length = out.length + 1 := by rw [List.length_append]; rfl
     have es:out ++ [(p.1 + r.1,max p.2 r.2)] ++ (if p.2 = max p.2 r.2 then (if r.2 = max p.2 r.2 then sbs (A1.drop (i + 1)) (B1.drop (j + 1)) else sbs (A1.drop (i + 1)) (B1.drop j)) else sbs (A1.drop i) (B1.drop (j + 1))) = sbs A1 B1 := by
       rw [<- eo,dA,dB,Sta.x8,List.append_assoc]
       rfl
     have T1:∀ {σ:St},σ[0]? = some (some (.ref a)) -> σ[3]? = some (some (.int (i:Int))) -> σ[6]? = some (some (.int ((max p.2 r.2:Nat):Int))) -> Tst (jG (tOp rEq (tOp (rIxT K) (tOp (rIxL K) (tVar 0) (tVar 3)) (tC (.int 1))) (tVar 6))) σ H4 ((p.2:Int) = ((max p.2 r.2:Nat):Int)) := fun e1 e2 e3 => zZ (wp (I1 S4 e1 e2) (zl e3))
     have T2:∀ {σ:St},σ[1]? = some (some (.ref b)) -> σ[4]? = some (some (.int (j:Int))) -> σ[6]? = some (some (.int ((max p.2 r.2:Nat):Int))) -> Tst (jG (tOp rEq (tOp (rIxT K) (tOp (rIxL K) (tVar 1) (tVar 4)) (tC (.int 1))) (tVar 6))) σ H4 ((r.2:Int) = ((max p.2 r.2:Nat):Int)) := fun e1 e2 e3 => zZ (wp (I2 S4 e1 e2) (zl e3))
     refine jN (T1 rfl rfl rfl) (fun c1 => ?_) (fun c1 => ?_)
     · have c1:p.2 = max p.2 r.2 := by omega
       rw [if_pos c1] at es
       refine ⟨_,rfl,_,_,rfl,rfl,?_⟩
       refine xK (T2 rfl rfl rfl) (fun c2 => ?_) (fun c2 => ?_)
       · have c2:r.2 = max p.2 r.2 := by omega
         rw [if_pos c2] at es
         refine ⟨_,rfl,_,_,rfl,rfl,?_⟩
         exact ⟨_,by omega,i + 1,j + 1,_,_,_,_,rfl,by omega,by omega,by omega,es,rfl,S4,hl4,hR4⟩
       · rw [if_neg (by omega)] at es
         exact ⟨_,by omega,i + 1,j,_,_,_,_,rfl,by omega,by omega,by omega,es,rfl,S4,hl4,hR4⟩
     · have c1:¬ p.2 = max p.2 r.2 := by omega
       rw [if_neg c1] at es
       refine zY ?_
       dsimp only
       refine xK (T2 rfl rfl rfl) (fun c2 => ?_) (fun c2 => ?_)
       · refine ⟨_,rfl,_,_,rfl,rfl,?_⟩
         exact ⟨_,by omega,i,j + 1,_,_,_,_,rfl,by omega,by omega,by omega,es,rfl,S4,hl4,hR4⟩
       · omega
   · have e0:sbs (A1.drop i) (B1.drop j) = [] := by
       by_cases z:i < A1.length
       · have:B1.drop j = [] := List.drop_eq_nil_iff.mpr (by omega)
         rw [this,Sta.w5]
       · have:A1.drop i = [] := List.drop_eq_nil_iff.mpr (by omega)
         rw [this,Sta.qY]
     rw [e0,List.append_nil] at eo
     subst eo
     exact ⟨_,rfl,q l rs H2 S2 nl hl2 hR⟩
theorem Yb:zu ["parts","stairs","part"] ["parts"] (ze sAll) := ⟨rfl,rfl,rfl,by decide +kernel,rfl,by decide +kernel,by decide +kernel⟩
theorem zbr {f fS:Addr} {fd dS:FuncData} (F:Fun K "all_side_by_side" "all_side_by_side" sAll f fd) (Sb:Callee P w K mg base CX0 1 "side_by_side" fS dS ["one","other"] X9):FnOk P w K mg base CX0 2 f fd ["parts"] Z8 := by
 refine F.ok Yb (fun vs H Q E h => ?_) (fun cdv A outer s H vs Q E hr h => ?_)
 · obtain ⟨a,us,A,As,H0,rfl,_⟩ := h
   rfl
 · obtain ⟨a,us,A1,As,H0,rfl,ha,hB,S0,hn,h1000,q⟩ := h
   refine ⟨_,(zd (zx (i := 1) Yb.nd rfl (Or.inl rfl) (zk zy (pv 0) zh (fun _ _ => rfl)))
     (zd (yq PassesOwn.never rfl (yi (yG xP (pv 0) (yL zh) xb)) (zr (i := 2) Yb.nd rfl (Or.inl rfl))
     (zg (zx (i := 1) Yb.nd rfl (Or.inl rfl) (zj Sb.ok hr rfl Sb.bound Sb.kp Sb.bd .nil zB (za (pv 1) (za (pv 2) zb))))))
     (zg (zn (pv 1))))),?_⟩
   cases hB with
   | @cons v0 _ vs _ h0 hr =>
   obtain ⟨l0,us0,rfl,n0,hl0,hs0⟩ := h0
   refine ⟨_,rfl,a,_,0,.ref l0,rfl,rfl,SqL.of ha,yA (j := 0) rfl,?_⟩
   have lv := Paired.length hr
   refine run_seq ⟨_,rfl,_,rfl,a,_,rfl,SqL.of ha,fun pc nc => ?_⟩
   have ec:cutV (V.ref l0 :: vs) (some 1) none = vs := we (V.ref l0 :: vs) 1 (by simp)
   rw [ec]
   have S1 := zf (o := .lst vs) nc
   have hpc:(upd H pc (.lst vs)) pc = some (.lst vs) := zc
   generalize upd H pc (.lst vs) = H1 at S1 hpc
   refine ⟨pc,rfl,⟨_,SqL.of hpc⟩,?_⟩
   have hr:yg H0 H vs As := hr
   refine xz (K := K) (a := pc) (xs := vs) (fun i σ H2 => ∃ (l:Addr) (rs:List V) (o:Option V),σ = [some (.ref a),some (.ref l),o] /\ Same H1 H2 /\ H0 l = none /\ H2 l = some (.lst rs) /\ zQ H2 rs ((As.take i).foldl sbs A1))
     ⟨l0,us0,none,rfl,Same.refl _,n0,S1 _ _ hl0,hs0.same S1⟩ (fun i σ H2 _ ⟨_,_,_,_,S,_⟩ => SqL.of (S _ _ hpc)) ?_ ?_
   · rintro i x σ H2 hi ⟨l,rs,o,rfl,S2,nl,hl,hR⟩
     obtain ⟨B,eB,lb,bs,rfl,nb,hb,hsb⟩ := hr.get' hi
     obtain ⟨hil,ev⟩ := List.getElem?_eq_some_iff.mp eB
     refine zF ?_
     have S12 := S1.trans S2
     have fl := Sta.w6 (As.take i) A1
     have sum_le:((As.take i).map List.length).sum + B.length <= (As.map List.length).sum := by
       have e:As = As.take i ++ B :: As.drop (i + 1) := by
         have := List.take_append_drop i As
         rw [List.drop_eq_getElem_cons hil,ev] at this
         exact this.symm
       conv => rhs; rw [e]
       rw [List.map_append,List.sum_append,List.map_cons,List.sum_cons]
       omega
     refine ⟨_,rfl,_,rfl,l,lb,rs,bs,_,B,rfl,hl,S12 _ _ hb,hR,hsb.same S12,by omega,fun l3 rs3 H3 S3 nl3 hl3 hR3 => ?_⟩
     refine ⟨l3,rs3,_,rfl,S2.trans S3,(S0.trans S12).free nl3,hl3,?_⟩
     rw [<- List.take_append_getElem hil,ev,List.foldl_append]
     exact hR3
   · rintro σ H2 ⟨l,rs,o,rfl,S2,nl,hl,hR⟩
     rw [lv,List.take_length] at hR
     exact ⟨_,rfl,q l rs H2 (S1.trans S2) nl hl hR⟩
theorem zbs:zu ["stairs"] ["stairs"] (ze qU) := ⟨rfl,rfl,rfl,by decide +kernel,rfl,by decide +kernel,by decide +kernel⟩
theorem zat {f:Addr} {fd:FuncData} (F:Fun K "exchanged" "exchanged" qU f fd) (Z:Ns K mg):FnOk P w K mg base CX0 1 f fd ["stairs"] jU := by
 obtain ⟨gWIDE,gHIGH,gMOST_WORDS,gACROSS,tl,ti,tlist,tall,tmax,trev,_,_,_,_,_,_⟩ := Z
 refine F.ok zbs (fun vs H Q E h => ?_) (fun cdv A outer s H vs Q E hr h => ?_)
 · obtain ⟨a,us,A,rfl,_⟩ := h
   rfl
 · obtain ⟨a,us,A1,rfl,ha,hA,hn,q⟩ := h
   refine ⟨_,(zg (zn (z9 (Nc := ["wide","high"]) (ix := [none,none]) rfl rfl (by exact (zbh rfl trev (za (pv 0) zb))) (fun _ _ _ _ _ => (wv (K := K) (n := 2) rfl rfl (zP (zr (i := 0) (by show (["wide","high"]:List Str).Nodup; decide +kernel) rfl (Or.inl rfl)) (zP (zr (i := 1) (by show (["wide","high"]:List Str).Nodup; decide +kernel) rfl (Or.inl rfl)) yU)))) (fun _ _ _ _ _ => zX) (fun _ _ _ _ _ => (yK (za (pv 1) (za (pv 0) zb))))))),?_⟩
   have la := hA.len
   refine ⟨_,rfl,a,us,rfl,SqL.of ha,zar (K := K) (a := a) (xs := us) (fun i ys σ H2 => Same H H2 /\ zQ H2 ys ((A1.reverse.take i).map fun p => (p.2,p.1)) /\ ∃ o o2,σ = [o,o2]) ⟨Same.refl _,.nil,none,none,rfl⟩
     (fun i ys σ H2 hi ⟨S,h,_⟩ => ⟨by rw [h.len,List.length_map,List.length_take]; exact Nat.le_trans (show _ <= 1000000 by omega) (by decide),SqL.of (S _ _ ha)⟩) ?_ ?_⟩
   case refine_2 =>
     rintro i x ys σ H2 hi hx ⟨S2,hY,o,o2,rfl⟩
     obtain ⟨p,ep,pa,rfl,hpa⟩ := hA.get' hx
     refine ⟨pa,_,rfl,SqT.of (S2 _ _ hpa),rfl,_,_,rfl,_,_,rfl,rfl,?_⟩
     dsimp only [z6,tYes]
     refine iteT ⟨_,rfl,_,rfl,by show 2 <= sizeLine; decide,fun tp ntp => ?_⟩
     have S3 := zf (o := .tup [.int (p.2:Int),.int (p.1:Int)]) ntp
     have hir:i < A1.reverse.length := by rw [List.length_reverse]; omega
     have er:A1.reverse[i] = p := by
       rw [List.getElem_reverse]
       have e2:A1[A1.length - 1 - i]? = some p := by rw [<- la]; exact ep
       rw [List.getElem?_eq_getElem (by omega)] at e2
       exact Option.some.inj e2
     refine ⟨S2.trans S3,?_,_,_,rfl⟩
     rw [<- List.take_append_getElem hir,er,List.map_append]
     exact (hY.same S3).snoc ⟨tp,rfl,zc⟩
   rintro ys σ H2 ⟨S2,hY,_⟩ l nl
   rw [la,<- List.length_reverse,List.take_length] at hY
   exact q l ys _ (S2.trans (zf nl)) (S2.free nl) zc (hY.same (zf nl))
theorem zb6:zu ["texts"] ["texts"] (ze sBst) := ⟨rfl,rfl,rfl,by decide +kernel,rfl,by decide +kernel,by decide +kernel⟩
theorem zbt {f fT C:Addr} {fd dT:FuncData} (F:Fun K "box_stairs" "box_stairs" sBst f fd) (Ts:Callee P w K mg base (CXE P w) 5 "text_stairs" fT dT ["words"] (jr C)):FnOk P w K mg base CX0 6 f fd ["texts"] Z9 := by
 refine F.ok zb6 (fun vs H Q E h => ?_) (fun cdv A outer s H vs Q E hr h => ?_)
 · obtain ⟨a,us,wss,rfl,_⟩ := h
   rfl
 · obtain ⟨a,us,wss,rfl,ha,hT,hn,q⟩ := h
   refine ⟨_,(zg (zn (z9 (Nc := ["words"]) (ix := [none]) rfl rfl (by refine' yi ?zz; case zz => exact (pv 0)) (fun _ _ _ _ _ => (zr (i := 0) (by show (["words"]:List Str).Nodup; decide +kernel) rfl (Or.inl rfl))) (fun _ _ _ _ _ => zX) (fun _ _ _ _ _ => (zj Ts.ok hr rfl Ts.bound Ts.kp Ts.bd .nil xx (za (pv 0) zb)))))),?_⟩
   have lt := hT.len
   refine ⟨_,rfl,a,rfl,⟨_,SqL.of ha⟩,yv (K := K) (a := a) (xs := us) (fun i ys σ H2 => Same H H2 /\ yg H H2 ys ((wss.take i).map stN) /\ ∃ o,σ = [o]) ⟨Same.refl _,.nil,none,rfl⟩
     (fun i ys σ H2 hi ⟨S,h,_⟩ => ⟨by rw [h.len,List.length_map,List.length_take]; exact Nat.le_trans (show _ <= 1000 by omega) (by decide),SqL.of (S _ _ ha)⟩) ?_ ?_⟩
   case refine_2 =>
     rintro i x ys σ H2 hx ⟨S2,hY,o,rfl⟩
     obtain ⟨ws,ew,pa,rfl,hpa,hw,h40⟩ := hT.get hx
     obtain ⟨hil,ev⟩ := List.getElem?_eq_some_iff.mp ew
     dsimp only [z6,tYes]
     refine iteT ⟨_,rfl,.ref pa,rfl,.inl ⟨pa,ws,rfl,S2 _ _ hpa,hw,by omega,fun l3 us3 H3 S3 nl3 hl3 hP => ?_⟩⟩
     refine ⟨S2.trans S3,?_,_,rfl⟩
     rw [<- List.take_append_getElem hil,ev,List.map_append]
     refine (hY.same S3).snoc ⟨l3,us3,rfl,S2.free nl3,hl3,?_⟩
     refine hP.sts fun p hp => ?_
     unfold xy at hp
     split at hp
     · rw [List.mem_singleton.mp hp]
       decide
     · rcases qv hp with e | ⟨j,_,e,_⟩
       · rw [e]
         exact Int.natCast_nonneg _
       · rw [e]
         show 0 <= (wid ws:Int) + ((j + 1:Nat):Int)
         omega
   rintro ys σ H2 ⟨S2,hY,_⟩ l nl
   rw [lt,List.take_length] at hY
   exact q l ys _ (S2.trans (zf nl)) (S2.free nl) zc (hY.same (zf nl))
end
end JI
namespace Tre
theorem zG.get:∀ {ts:List T} {nss:List (List Int)} {i:Nat} {t:T},zG ts nss -> ts[i]? = some t -> ∃ n,nss[i]? = some n /\ Good t n
 | _,_,_,_,.nil,e => by simp at e
 | _,_,0,_,.cons h _,e => by simp at e; subst e; exact ⟨_,rfl,h⟩
 | _,_,i + 1,t,.cons _ r,e => by
   obtain ⟨n,h1,h2⟩ := zG.get (i := i) (t := t) r (by simpa using e)
   exact ⟨n,by simpa using h1,h2⟩
end Tre
namespace JI
open PySem L2 Lin Tre PySem.W
open Sta (R Ok sbs exch reg OkS OkSs stN HasR zK)
def spSo (d:Nat):Sp := fun vs H Q _ => ∃ (x:V) (t:T) (n:List Int) (b:Addr) (bvs:List V) (As:List Stc) (Ls:List R) (P:R) (H0:Hp),vs = [x,.ref b] /\ At H x t /\ Good t n /\ HasR Ls t P /\ H b = some (.lst bvs) /\ yg H0 H bvs As /\ OkSs As Ls /\ (∀ A ∈ As,A.length <= 600) /\
 n.length <= 24 /\ sz t + 3 <= 4 * d /\ d <= 24 /\ Same H0 H /\ ∀ (l:Addr) (us:List V) (A:Stc) (H':Hp),Same H H' -> H0 l = none -> H' l = some (.lst us) -> zQ H' us A -> OkS A P -> A.length <= 600 * n.length -> Q (.ref l) H'
def Lvs (wss:List (List W)):List R := wss.map Sta.xg
def Yc (C4 C6:Addr):Sp := fun vs H Q E => ∃ (x y:V) (t:T),vs = [x,y] /\ At H x t /\ sz t <= 1000 /\
 ((∃ (n:List Int) (a:Addr) (xs:List V) (wss:List (List W)),z4 t /\ Good t n /\ y = .ref a /\ H a = some (.lst xs) /\ Txs H xs wss /\ xs.length = n.length /\
     ∀ (P:R) (l:Addr) (us:List V) (A:Stc) (H':Hp),HasR (Lvs wss) t P -> Same H H' -> H l = none -> H' l = some (.lst us) -> zQ H' us A -> OkS A P -> A.length <= 15000 -> Q (.ref l) H') \/
  (∃ (n:List Int) (a:Addr) (xs:List V) (bs:List Bool),z4 t /\ Good t n /\ y = .ref a /\ H a = some (.lst xs) /\ JTs H xs bs /\ xs.length <= 1000 /\ (xs.length ≠ n.length \/ bs.all id = false) /\ ∀ H',Same H H' -> E (.ref C6) none H') \/
  (z4 t /\ NoL H y /\ ∀ H',Same H H' -> E (.ref C6) none H') \/ (¬ z4 t /\ ∀ H',Same H H' -> E (.ref C4) none H'))
theorem ZX {wss:List (List W)} (h:∀ ws ∈ wss,∀ u ∈ ws,okW u):OkSs (wss.map stN) (Lvs wss) := by
 unfold Lvs
 induction wss with
 | nil => exact .nil
 | cons a r ih => exact .cons (Sta.zb5 fun u hu => (h a List.mem_cons_self u hu).1) (ih fun ws hw => h ws (List.mem_cons_of_mem _ hw))
theorem y6 (wss:List (List W)):∀ L ∈ Lvs wss,Sta.Up L := fun L hL => by
 obtain ⟨ws,_,rfl⟩ := List.mem_map.mp hL
 exact Sta.zap ws
theorem wJ:∀ {nss:List (List Int)} {n:List Int},n ∈ nss -> n.length <= nss.flatten.length
 | a :: r,n,h => by
   rw [List.flatten_cons,List.length_append]
   rcases List.mem_cons.mp h with e | e
   · rw [e]; omega
   · have := wJ e
     omega
theorem Qe:∀ {L:List Stc} {B:Stc},B ∈ L -> B.length <= (L.map List.length).sum
 | a :: r,B,h => by
   rw [List.map_cons,List.sum_cons]
   rcases List.mem_cons.mp h with e | e
   · rw [e]; omega
   · have := Qe e
     omega
theorem Txs.okw {H:Hp}:∀ {vs:List V} {ts:List (List W)},Txs H vs ts -> ∀ ws ∈ ts,∀ u ∈ ws,okW u
 | _,_,.nil,ws,h => (List.not_mem_nil h).elim
 | _,_,.cons h t,ws,hw => by
   rcases List.mem_cons.mp hw with e | e
   · rw [e]
     obtain ⟨_,_,_,z,_⟩ := h
     exact z
   · exact Txs.okw t ws e
theorem Txs.ok40 {H:Hp}:∀ {vs:List V} {ts:List (List W)},Txs H vs ts -> ∀ ws ∈ ts,ws.length <= 40
 | _,_,.nil,ws,h => (List.not_mem_nil h).elim
 | _,_,.cons h t,ws,hw => by
   rcases List.mem_cons.mp hw with e | e
   · rw [e]
     obtain ⟨_,_,_,_,z⟩ := h
     exact z
   · exact Txs.ok40 t ws e
theorem w9:(dash:Str) ≠ bar := by decide +kernel
section
variable {P:Program} {w:World} {K:PySem.W.Frag} {mg:Str -> Option Value} {base:Heap} {kA:Addr}
theorem scSo:zu ["tree","boxes","parts"] ["tree","boxes"] (ze sSo) := ⟨rfl,rfl,rfl,by decide +kernel,rfl,by decide +kernel,by decide +kernel⟩
theorem zbu {f:Addr} {fd:FuncData} (F:Fun K "stairs_of" "stairs_of" sSo f fd):FnOk P w K mg base CX0 3 f fd ["tree","boxes"] (spSo 0) := by
 refine F.ok scSo (fun vs H Q E h => ?_) (fun cdv A outer s H vs Q E hr h => ?_)
 · obtain ⟨x,t,n,b,bvs,As,Ls,P,H0,rfl,_⟩ := h
   rfl
 · obtain ⟨x,t,n,b,bvs,As,Ls,P,H0,rfl,_,_,_,_,_,_,_,_,hz,_⟩ := h
   omega
theorem zbv {f fW fA fX:Addr} {fd dW dA dX:FuncData} {d:Nat} (F:Fun K "stairs_of" "stairs_of" sSo f fd) (gKIND:GI mg "KIND" 0) (gPARTS:GI mg "PARTS" 1) (Z:Ns K mg) (Wo:Callee P w K mg base CX0 1 "is_whole" fW dW ["thing"] xE)
   (Al:Callee P w K mg base CX0 2 "all_side_by_side" fA dA ["parts"] Z8) (Ex:Callee P w K mg base CX0 1 "exchanged" fX dX ["stairs"] jU) (So:Callee P w K mg base CX0 (d + 3) "stairs_of" f fd ["tree","boxes"] (spSo d)):FnOk P w K mg base CX0 (d + 4) f fd ["tree","boxes"] (spSo (d + 1)) := by
 obtain ⟨gWIDE,gHIGH,gMOST_WORDS,gACROSS,tl,ti,tlist,tall,tmax,trev,_,_,_,_,_,_⟩ := Z
 refine F.ok scSo (fun vs H Q E h => ?_) (fun cdv A outer s H vs Q E hr h => ?_)
 · obtain ⟨x,t,n,b,bvs,As,Ls,P,H0,rfl,_⟩ := h
   rfl
 · obtain ⟨x,t,n,b,bvs,As,Ls,P1,H0,rfl,hA,g,hR,hb,hB,hO,h600,n24,hz,hd,S0,q⟩ := h
   refine ⟨_,(zd (zO (yl (zj Wo.ok (hr.mono (by omega)) rfl Wo.bound Wo.kp Wo.bd .nil zB (za (pv 0) zb)))
     (zg (zn (zk zy (pv 1) (pv 0) (fun _ _ => rfl))))
     zH)
     (zd (wu (i := 2) (Nc := ["part","boxes"]) (ix := [none,some 1]) scSo.nd rfl (Or.inl rfl) rfl rfl (by exact (wn (zk zN (pv 0) (zJ rfl gPARTS) (fun _ _ => rfl)))) (fun _ _ _ _ _ => (zr (i := 0) (by show (["part","boxes"]:List Str).Nodup; decide +kernel) rfl (Or.inl rfl))) (fun _ _ _ _ _ => zX) (fun _ _ _ _ _ => (zj So.ok hr rfl So.bound So.kp So.bd .nil zB (za (pv 0) (za (pv 1) zb)))))
     (zd (zO (zC xu (zk zN (pv 0) (zJ rfl gKIND) (fun _ _ => rfl)) (JG rfl gACROSS) (zE _))
     (zg (zn (zj Al.ok (hr.mono (by omega)) rfl Al.bound Al.kp Al.bd .nil zB (za (pv 2) zb))))
     zH)
     (zg (zn (zj Ex.ok (hr.mono (by omega)) rfl Ex.bound Ex.kp Ex.bd .nil zB (za (zj Al.ok (hr.mono (by omega)) rfl Al.bound Al.kp Al.bd .nil zB (za (z9 (Nc := ["part"]) (ix := [none]) rfl rfl (by refine' yi ?zz; case zz => exact (pv 2)) (fun _ _ _ _ _ => (zr (i := 0) (by show (["part"]:List Str).Nodup; decide +kernel) rfl (Or.inl rfl))) (fun _ _ _ _ _ => zX) (fun _ _ _ _ _ => (zj Ex.ok (hr.mono (by omega)) rfl Ex.bound Ex.kp Ex.bd .nil zB (za (pv 0) zb)))) zb)) zb))))))),?_⟩
   refine ⟨_,rfl,x,t,rfl,hA,_,rfl,?_⟩
   cases g with
   | leaf i =>
     cases hA
     cases hR with
     | leaf h0 hL =>
     obtain ⟨A1,eA,oA⟩ := hO.get hL
     obtain ⟨v,ev,l,us,rfl,nl,hl,hs⟩ := hB.get eA
     have ati:atI bvs i = some (.ref l) := by
       have := yA ev
       rwa [Int.toNat_of_nonneg h0] at this
     refine iteT ⟨_,rfl,_,rfl,b,_,_,_,rfl,rfl,SqL.of hb,ati,q l us A1 H (Same.refl _) nl hl hs oA ?_⟩
     have := h600 A1 (List.mem_of_getElem? eA)
     show A1.length <= 600 * 1
     omega
   | @node k ps nss hk h2 hn hG =>
     cases hA with
     | @tup a0 vs0 ss e hL =>
     obtain ⟨b0,ws,rfl,e2,hQ⟩ := hL.knot
     have lq := hQ.len
     have nsz := xq k ps
     have lps := xV ps
     refine iteF ?_
     refine zY ?_
     dsimp only
     obtain ⟨P0,Ps,hRL,eP⟩ : ∃ P0 Ps,zK Ls ps (P0 :: Ps) /\ ((k = bar /\ P1 = Ps.foldl Sta.bes P0) \/ (k = dash /\ P1 = Ps.foldl Sta.dwn P0)) := by
       cases hR with
       | bar h => exact ⟨_,_,h,.inl ⟨rfl,rfl⟩⟩
       | dash h => exact ⟨_,_,h,.inr ⟨rfl,rfl⟩⟩
     have lP := hRL.len
     have lG := hG.len
     refine ⟨_,rfl,a0,_,_,_,rfl,rfl,SqT.of e,rfl,b0,rfl,⟨_,SqT.of e2⟩,xR (K := K) (a := b0) (xs := ws) (fun i ys σ H' => ∃ Bs:List Stc,yg H0 H' ys Bs /\ OkSs Bs ((P0 :: Ps).take i) /\ Bs.length = i /\ (Bs.map List.length).sum <= 600 * (nss.take i).flatten.length /\ Same H H' /\ ∃ o,σ = [o,some (.ref b)]) ⟨[],.nil,.nil,rfl,Nat.le_refl _,Same.refl _,none,rfl⟩
       (fun i ys σ H' hi ⟨Bs,h1,_,l1,_,S3,_⟩ => ⟨by rw [h1.len,l1]; exact Nat.le_trans (show i <= 1000000 by omega) (by decide),SqT.of (S3 _ _ e2)⟩) ?_ ?_⟩
     case refine_2 =>
       rintro i y ys σ H1 hy ⟨Bs,hBs,oBs,lB,sB,S1,o,rfl⟩
       obtain ⟨p,ep,hAp⟩ := hQ.get hy
       obtain ⟨hil,ev⟩ := List.getElem?_eq_some_iff.mp ep
       have pm:p ∈ ps := List.mem_of_getElem? ep
       obtain ⟨np,enp,gp⟩ := hG.get ep
       obtain ⟨hin,evn⟩ := List.getElem?_eq_some_iff.mp enp
       obtain ⟨Pp,ePp,hPp⟩ := hRL.get ep
       obtain ⟨hip,evp⟩ := List.getElem?_eq_some_iff.mp ePp
       have two := qD h2 pm
       have ln := wJ (List.mem_of_getElem? enp)
       dsimp only [z6,tYes]
       refine iteT ?_
       refine ⟨_,rfl,_,rfl,y,p,np,b,bvs,As,Ls,Pp,H0,rfl,hAp.same S1,gp,hPp,S1 _ _ hb,hB.same S1,hO,h600,by omega,by omega,by omega,S0.trans S1,fun l us A1 H2 S2 nl hl hs oA lA => ?_⟩
       refine ⟨Bs ++ [A1],(hBs.same S2).snoc ⟨l,us,rfl,nl,hl,hs⟩,?_,by rw [List.length_append,lB]; rfl,?_,S1.trans S2,_,rfl⟩
       · rw [<- List.take_append_getElem hip,evp]
         exact oBs.snoc oA
       · rw [<- List.take_append_getElem hin,evn,List.flatten_append,List.length_append,List.map_append,List.sum_append]
         simp only [List.flatten_cons,List.flatten_nil,List.append_nil,List.map_cons,List.map_nil,List.sum_cons,List.sum_nil]
         omega
     rintro ys σ H1 ⟨Bs,hBs,oBs,lB,sB,S1,_⟩ pl npl
     rw [lq,lP,List.take_length] at oBs
     rw [lq,<- lG,List.take_length] at sB
     have S2 := S1.trans (zf (o := .lst ys) npl)
     have hpl:(upd H1 pl (.lst ys)) pl = some (.lst ys) := zc
     have hBs2 := hBs.same (zf (o := .lst ys) npl)
     generalize upd H1 pl (.lst ys) = H2 at S2 hpl hBs2
     clear hBs
     cases oBs with
     | @cons B0 _ Br _ o0 oR =>
     rw [List.map_cons,List.sum_cons] at sB
     rw [List.length_cons] at lB
     try dsimp only
     refine ⟨_,rfl,a0,_,_,_,rfl,rfl,SqT.of (S2 _ _ e),rfl,rfl,_,rfl,?_⟩
     have ek:decide (V.str k = V.str "|") = decide (k = bar) := by
       rw [decide_eq_decide]
       exact ⟨fun z => by injection z,fun z => by rw [z]; rfl⟩
     rw [ek]
     rcases eP with ⟨rfl,rfl⟩ | ⟨rfl,rfl⟩
     · rw [decide_eq_true rfl]
       refine iteT ⟨_,rfl,pl,ys,B0,Br,H0,rfl,hpl,hBs2,S0.trans S2,by omega,by omega,fun l rs H3 S3 nl hl hs => ?_⟩
       have fl := Sta.w6 Br B0
       exact q l rs _ H3 (S2.trans S3) nl hl hs (Sta.jw oR o0) (by omega)
     · rw [decide_eq_false w9]
       refine iteF ?_
       refine zY ?_
       dsimp only
       refine ⟨_,rfl,pl,rfl,⟨_,SqL.of hpl⟩,yv (K := K) (a := pl) (xs := ys) (fun i zs σ H' => yg H0 H' zs (((B0 :: Br).take i).map exch) /\ Same H2 H' /\ ∃ o,σ = [o]) ⟨.nil,Same.refl _,none,rfl⟩
         (fun i zs σ H' hi ⟨h1,S3,_⟩ => ⟨by rw [h1.len,List.length_map,List.length_take,List.length_cons]; exact Nat.le_trans (show _ <= 1000000 by omega) (by decide),SqL.of (S3 _ _ hpl)⟩) ?_ ?_⟩
       case refine_2 =>
         rintro i y zs σ H3 hy ⟨hZ,S3,o,rfl⟩
         obtain ⟨B,eB,lb,us,rfl,nb,hlb,hsb⟩ := hBs2.get' hy
         obtain ⟨hil,ev⟩ := List.getElem?_eq_some_iff.mp eB
         have lB':B.length <= 1000000 := by
           have m:B ∈ B0 :: Br := List.mem_of_getElem? eB
           have := Qe m
           rw [List.map_cons,List.sum_cons] at this
           omega
         dsimp only [z6,tYes]
         refine iteT ⟨_,rfl,lb,us,B,rfl,S3 _ _ hlb,hsb.same S3,lB',fun l rs H4 S4 nl hl hs => ⟨?_,S3.trans S4,_,rfl⟩⟩
         rw [<- List.take_append_getElem hil,ev,List.map_append]
         exact (hZ.same S4).snoc ⟨l,rs,rfl,(S0.trans (S2.trans S3)).free nl,hl,hs⟩
       rintro zs σ H3 ⟨hZ,S3,_⟩ pz npz
       have ly := hBs2.len
       rw [ly,List.take_length,List.map_cons] at hZ
       have S4 := S3.trans (zf (o := .lst zs) npz)
       have hpz:(upd H3 pz (.lst zs)) pz = some (.lst zs) := zc
       have hZ4 := hZ.same (zf (o := .lst zs) npz)
       generalize upd H3 pz (.lst zs) = H4 at S4 hpz hZ4
       have el:(exch B0).length + ((Br.map exch).map List.length).sum = B0.length + (Br.map List.length).sum := by rw [Sta.jx,Sta.Qc]
       refine ⟨pz,zs,exch B0,Br.map exch,H0,rfl,hpz,hZ4,S0.trans (S2.trans S4),by omega,by rw [List.length_map]; omega,fun l rs H5 S5 nl hl hs => ?_⟩
       have fl := Sta.w6 (Br.map exch) (exch B0)
       refine ⟨l,rs,_,rfl,hl,hs,by omega,fun l2 rs2 H6 S6 nl2 hl2 hs2 => ?_⟩
       have o1 := (Sta.jw oR.exch o0.exch).exch
       rw [Sta.XE] at o1
       exact q l2 rs2 _ H6 (S2.trans (S4.trans (S5.trans S6))) ((S0.trans (S2.trans (S4.trans S5))).free nl2) hl2 hs2 o1 (by rw [Sta.jx]; omega)
theorem JJ {f fW fA fX:Addr} {fd dW dA dX:FuncData} (F:Fun K "stairs_of" "stairs_of" sSo f fd) (gKIND:GI mg "KIND" 0) (gPARTS:GI mg "PARTS" 1) (Z:Ns K mg) (Wo:Callee P w K mg base CX0 1 "is_whole" fW dW ["thing"] xE)
   (Al:Callee P w K mg base CX0 2 "all_side_by_side" fA dA ["parts"] Z8) (Ex:Callee P w K mg base CX0 1 "exchanged" fX dX ["stairs"] jU) (bo:mg "stairs_of" = some (.ref f)) (kp:PySem.W.keepIn K (.ref f) = true) (bd:Binds K fd ["tree","boxes"] []):∀ d,FnOk P w K mg base CX0 (d + 3) f fd ["tree","boxes"] (spSo d)
 | 0 => zbu F
 | d + 1 => zbv F gKIND gPARTS Z Wo Al Ex ⟨JJ F gKIND gPARTS Z Wo Al Ex bo kp bd d,bo,kp,bd⟩
theorem zb7:zu ["tree","texts"] ["tree","texts"] (ze sTst) := ⟨rfl,rfl,rfl,by decide +kernel,rfl,by decide +kernel,by decide +kernel⟩
theorem zbw {f fR fS fB C4 C6:Addr} {fd dR dS dB:FuncData} (F:Fun K "tree_stairs" "tree_stairs" sTst f fd) (Rt:Callee P w K mg base (CXE P w) 8 "refuse_no_texts" fR dR ["tree","texts"] (Z7 C4 C6)) (So:Callee P w K mg base CX0 27 "stairs_of" fS dS ["tree","boxes"] (spSo 24))
   (Bs:Callee P w K mg base CX0 6 "box_stairs" fB dB ["texts"] Z9):FnOk P w K mg base (CXE P w) 28 f fd ["tree","texts"] (Yc C4 C6) := by
 refine F.okE zb7 (fun vs H Q E h => ?_) (fun cdv A outer s H vs Q E hr hh h => ?_)
 · obtain ⟨x,y,t,rfl,_⟩ := h
   rfl
 · obtain ⟨x,y,t,rfl,hA,hz,h⟩ := h
   refine ⟨_,(zd (z8 (zj Rt.ok (hr.mono (by decide)) rfl Rt.bound Rt.kp Rt.bd .nil y3 (za (pv 0) (za (pv 1) zb))))
     (zg (zn (zj So.ok hr rfl So.bound So.kp So.bd .nil zB (za (pv 0) (za (zj Bs.ok (hr.mono (by decide)) rfl Bs.bound Bs.kp Bs.bd .nil zB (za (pv 1) zb)) zb)))))),?_⟩
   rcases h with ⟨n,a,xs,wss,iT,g,rfl,ha,hT,hl,q⟩ | ⟨n,a,xs,bs,iT,g,rfl,ha,hJ,hl,hb,qe⟩ | ⟨iT,hn,qe⟩ | ⟨nT,qe⟩
   · have n24 := (iT.okN g).2
     have okn := (iT.okN g).1
     refine ⟨_,rfl,_,rfl,x,.ref a,t,rfl,hA,hz,.inl ⟨n,a,xs,_,iT,g,rfl,ha,hT.jts,by omega,.inl ⟨hl,by simp,fun H1 S1 => ?_⟩⟩⟩
     have lw := hT.len
     have okw := hT.okw
     have ok40 := hT.ok40
     refine ⟨_,rfl,_,rfl,a,xs,wss,rfl,S1 _ _ ha,hT.same S1,by omega,fun lb rs H2 S2 nlb hlb hBs => ?_⟩
     have rng:∀ i ∈ n,0 <= i /\ i < ((Lvs wss).length:Int) := fun i hi => by
       obtain ⟨y,gy,l24,py⟩ := iT
       have e := Good.uniq g gy
       subst e
       have := py.mem_iff.mp hi
       unfold up at this
       obtain ⟨j,hj,rfl⟩ := List.mem_map.mp this
       have := List.mem_range.mp hj
       unfold Lvs
       rw [List.length_map]
       omega
     obtain ⟨P1,hP⟩ := Sta.Zh g rng
     have hsz := g.szN
     refine ⟨x,t,n,lb,rs,wss.map stN,Lvs wss,P1,H1,rfl,hA.same (S1.trans S2),g,hP,hlb,hBs,ZX okw,fun A hA => ?_,n24,by omega,by decide,S2,fun l us A1 H3 S3 nl hl hs oA lA => ?_⟩
     · obtain ⟨ws,hw,rfl⟩ := List.mem_map.mp hA
       exact XF (okw ws hw) (ok40 ws hw)
     · exact q P1 l us A1 H3 hP (S1.trans (S2.trans S3)) (S1.free nl) hl hs oA (by omega)
   · exact ⟨_,rfl,_,rfl,x,.ref a,t,rfl,hA,hz,.inl ⟨n,a,xs,bs,iT,g,rfl,ha,hJ,hl,.inr ⟨hb,qe⟩⟩⟩
   · exact ⟨_,rfl,_,rfl,x,y,t,rfl,hA,hz,.inr (.inl ⟨iT,hn,qe⟩)⟩
   · exact ⟨_,rfl,_,rfl,x,y,t,rfl,hA,hz,.inr (.inr ⟨nT,qe⟩)⟩
end
end JI
namespace L2
open PySem PySem.Spec PyProof.Rows
end L2
namespace JI
open PySem L2 Lin Tre PySem.W
open Sta (R Ok sbs exch reg OkS OkSs stN HasR zK)
theorem jy {K:PySem.W.Frag} {H:Hp} {n:Nat} {x y:V} {b:Bool} (h:EqR K H n x y b) (e:b = true):EqR K H n x y true := e ▸ h
theorem all_true (n:Nat):((List.range n).all fun _ => true) = true := List.all_eq_true.mpr fun _ _ => rfl
theorem Yd {K:PySem.W.Frag} {H:Hp} {n:Nat} {a b:Addr} {ws:List W} (ha:SqL K H a (tx ws)) (hb:SqL K H b (tx ws)):EqR K H (n + 1) (.ref a) (.ref b) true := by
 have fl:∀ j,j < (tx ws).length -> xj ((tx ws).getD j .non) = true := fun j hj => by
   rw [zT] at hj
   rw [List.getD_eq_getElem?_getD,zbb (List.getElem?_eq_getElem hj)]
   rfl
 exact jy (EqR.lsts (n := n) (e := fun _ => true) ha hb rfl fun j hj => jy (.flat (fl j hj) (fl j hj)) (Yw (fl j hj))) (all_true _)
theorem eq_empty {K:PySem.W.Frag} {H:Hp} {a b:Addr} {xs:List V} (ha:H a = some (.lst xs)) (hb:H b = some (.lst [])):EqR K H 1 (.ref a) (.ref b) (decide (xs = [])) := by
 by_cases h:xs = []
 · subst h
   rw [decide_eq_true rfl]
   exact Yd (ws := []) (SqL.of ha) (SqL.of hb)
 · rw [decide_eq_false h]
   exact EqR.lens (n := 0) (SqL.of ha) (SqL.of hb) fun z => h (List.length_eq_zero_iff.mp z)
end JI
namespace JI
open PySem L2 Lin Tre PySem.W
open Sta (R Ok sbs exch reg OkS OkSs stN HasR zK Low)
def oV:Option Nat -> V
 | none => .non
 | some n => .int (n:Int)
theorem XG {t u:TT} {p q:Prop} {σ:St} {H:Hp} [Decidable p] [Decidable q] (a:Tst t σ H p) (b:¬ p -> Tst u σ H q):Tst (tOr t u) σ H (p \/ q) := fun Q z => a _ (by
 by_cases h:p
 · rw [decide_eq_true h,if_pos rfl]
   have e:decide (p \/ q) = true := decide_eq_true (.inl h)
   rw [<- e]; exact z
 · rw [decide_eq_false h,if_neg Bool.false_ne_true]
   refine b h _ ?_
   have e:decide (p \/ q) = decide q := by rw [decide_eq_decide]; exact ⟨fun z => z.resolve_left h,.inr⟩
   rw [<- e]; exact z)
end JI
namespace JI
open PySem L2 Lin Tre PySem.W
open Sta (R Ok sbs exch reg OkS OkSs stN HasR zK Low)
end JI
namespace Sta
open Tre Lin
mutual
theorem y7 {Ls:List R}:∀ {t:T} {P Q:R},HasR Ls t P -> HasR Ls t Q -> P = Q
 | _,_,_,.leaf _ h,h' => by
   cases h' with
   | leaf _ k => rw [h] at k; exact Option.some.inj k
 | _,_,_,.bar h,h' => by
   generalize e:(T.tup [.str bar,.tup _]:T) = t' at h'
   cases h' with
   | leaf _ _ => cases e
   | bar k =>
     injection e with e
     injection e with _ e
     injection e with e _
     injection e with e
     subst e
     have := qa h k
     injection this with a b
     subst a b
     rfl
   | dash k =>
     injection e with e
     injection e with e _
     injection e with e
     exact absurd e.symm (by decide +kernel)
 | _,_,_,.dash h,h' => by
   generalize e:(T.tup [.str dash,.tup _]:T) = t' at h'
   cases h' with
   | leaf _ _ => cases e
   | dash k =>
     injection e with e
     injection e with _ e
     injection e with e _
     injection e with e
     subst e
     have := qa h k
     injection this with a b
     subst a b
     rfl
   | bar k =>
     injection e with e
     injection e with e _
     injection e with e
     exact absurd e (by decide +kernel)
theorem qa {Ls:List R}:∀ {ts:List T} {Ps Qs:List R},zK Ls ts Ps -> zK Ls ts Qs -> Ps = Qs
 | _,_,_,.nil,h' => by cases h'; rfl
 | _,_,_,.cons h r,h' => by
   cases h' with
   | cons k s => rw [y7 h k,qa r s]
end
end Sta
namespace Sta
open Tre Lin
theorem zau {A:S} {w:Nat} {ns:List Nat} (h:∀ n,n ∈ ns ↔ ∃ p,p ∈ A /\ p.1 <= w /\ p.2 = n):(ns = [] -> Low (reg A) w none) /\ ∀ M,M ∈ ns -> (∀ z ∈ ns,M <= z) -> Low (reg A) w (some M) := by
 refine ⟨fun e k ⟨p,hp,a,b⟩ => ?_,fun M hM hl => ⟨?_,fun k ⟨p,hp,a,b⟩ => ?_⟩⟩
 · have := (h p.2).mpr ⟨p,hp,a,rfl⟩
   rw [e] at this
   exact List.not_mem_nil this
 · obtain ⟨p,hp,a,b⟩ := (h M).mp hM
   exact ⟨p,hp,a,Nat.le_of_eq b⟩
 · have := hl p.2 ((h p.2).mpr ⟨p,hp,a,rfl⟩)
   omega
theorem zav {A:S} {k:Nat} {ns:List Nat} (h:∀ n,n ∈ ns ↔ ∃ p,p ∈ A /\ p.2 <= k /\ p.1 = n):(ns = [] -> Low (tr (reg A)) k none) /\ ∀ M,M ∈ ns -> (∀ z ∈ ns,M <= z) -> Low (tr (reg A)) k (some M) := by
 refine ⟨fun e w ⟨p,hp,a,b⟩ => ?_,fun M hM hl => ⟨?_,fun w ⟨p,hp,a,b⟩ => ?_⟩⟩
 · have := (h p.1).mpr ⟨p,hp,b,rfl⟩
   rw [e] at this
   exact List.not_mem_nil this
 · obtain ⟨p,hp,a,b⟩ := (h M).mp hM
   exact ⟨p,hp,Nat.le_of_eq b,a⟩
 · have := hl p.1 ((h p.1).mpr ⟨p,hp,b,rfl⟩)
   omega
end Sta
namespace L2
open PySem PySem.Spec PyProof.Rows
section
variable {prog:Program} {w:World} {A:Around} {R:Result -> Shared -> Prop} {I:Addr} {fp wr:List Addr} {n:Nat} {P:Nat -> Value -> Prop} {St:Nat -> Heap -> Prop}
def Kept (bt:Nat -> Nat -> Bool) (P:Nat -> Value -> Prop) (i:Nat) (acc:Array Value):Prop := (i = 0 /\ acc = #[]) \/ ∃ v,0 < i /\ acc = #[v,v] /\ P (argBest bt (i - 1)) v
theorem ZY (W:Walks prog w A.in1 I fp wr n P St) (bt:Nat -> Nat -> Bool) (hcmp:CmpOf prog w A.in1 .Lt P bt) (S:Addr) (hSf:S ∉ fp) (x:Str) (d:Value) :
   ∀ (k i:Nat) (s:Shared) (acc:Array Value) (c:Nat),i + k = n -> St i s.heap -> Kept bt P i acc -> s.heap.get? S = some { cls := .type "list",dict := none,data := .seq acc c,slots := #[] } ->
   (∀ v h' tk,((0 < n /\ P (argBest bt (n - 1)) v) \/ (n = 0 /\ v = d)) -> (∀ b o,b ∉ wr -> b ≠ S -> s.heap.get? b = some o -> h'.get? b = some o) -> R (.ok (.ret v)) { s with heap := h',toks := tk }) ->
   codeAny (model prog w) A (.builtin "min.loop" ⟨[.ref I,.none,.ref S],[(x,d)]⟩) R s
 | 0,i,s,acc,c,hk,hst,hK,hS,hR => by
   have hSw:S ∉ wr := fun h => hSf (W.sub _ h)
   have e:i = n := by omega
   subst e
   refine codeAny_builtin F.entry_min_loop ?_
   rw [Around.under_plainId F.plain_min_loop _]
   show wpAny _ A.in1 (seqItems? (.ref S) >>= _) _ _ s
   refine wpAny_bind (wpAny_seqItems hS rfl ?_)
   refine wpAny_bind (wpAny_tryCatch (W.done s _ _ hst fun h' tk hk' => ?_))
   rcases hK with ⟨i0,rfl⟩ | ⟨v,i0,rfl,hv⟩
   · show wpAny _ A.in1 (rule _ >>= fun _ => ret d) _ _ _
     refine wpAny_bind (wpAny_rule (wpAny_pure ?_))
     exact hR d h' tk (.inr ⟨i0,rfl⟩) fun b o hb _ q => hk' b o hb q
   · have hS' := hk' S _ hSw hS
     show wpAny _ A.in1 (updateSeq S (fun _ => #[]) >>= _) _ _ _
     refine wpAny_bind (wpAny_updateSeq hS' rfl ?_)
     refine wpAny_bind (wpAny_letGo (wpAny_pure ?_))
     exact hR v _ tk (.inl ⟨i0,hv⟩) fun b o hb bS q => (Heap.get?_update_other _ _ (Ne.symm bS)).trans (hk' b o hb q)
 | k + 1,i,s,acc,c,hk,hst,hK,hS,hR => by
   have hSw:S ∉ wr := fun h => hSf (W.sub _ h)
   have hname:(toString "min" ++ toString ".loop" : String) = "min.loop" := by decide
   refine codeAny_builtin F.entry_min_loop ?_
   rw [Around.under_plainId F.plain_min_loop _]
   show wpAny _ A.in1 (seqItems? (.ref S) >>= _) _ _ s
   refine wpAny_bind (wpAny_seqItems hS rfl ?_)
   refine wpAny_bind (wpAny_tryCatch (W.item i s _ _ (by omega) hst fun v h' tk hP hst' hk' => ?_))
   have hS' := hk' S _ hSw hS
   have oth:∀ (acc':Array Value) b o,b ≠ S -> h'.get? b = some o -> (h'.update S (Obj.mapSeq fun _ => acc')).get? b = some o := fun _ b o bS q => (Heap.get?_update_other _ _ (Ne.symm bS)).trans q
   have nx:∀ (acc':Array Value) (c':Nat) (h'':Heap),Kept bt P (i + 1) acc' -> h''.get? S = some { cls := .type "list",dict := none,data := .seq acc' c',slots := #[] } -> (∀ b o,b ≠ S -> h'.get? b = some o -> h''.get? b = some o) ->
       codeAny (model prog w) A (.builtin "min.loop" ⟨[.ref I,.none,.ref S],[(x,d)]⟩) R { s with heap := h'',toks := tk } := fun acc' c' h'' hK' hS'' o'' =>
     ZY W bt hcmp S hSf x d k (i + 1) _ acc' c' (by omega) (W.frame _ _ _ hst' fun b hb o q => o'' b o (fun z => hSf (by rw [<- z]; exact hb)) q) hK' hS'' fun u h3 t3 hu k3 => hR u h3 t3 hu fun b o hb bS q => k3 b o hb bS (o'' b o bS (hk' b o hb q))
   rcases hK with ⟨i0,rfl⟩ | ⟨u,i0,rfl,hu⟩
   · show wpAny _ A.in1 (updateSeq S (fun _ => #[v,v]) >>= _) _ _ _
     refine wpAny_bind (wpAny_updateSeq hS' rfl ?_)
     rw [hname]
     exact wpAny_pure ⟨plainId_quiet F.plain_min_loop _,nx #[v,v] _ _ (.inr ⟨v,Nat.succ_pos _,rfl,by subst i0; exact hP⟩) (Heap.get?_update_self _ hS' rfl) (oth _)⟩
   · obtain ⟨j,rfl⟩ : ∃ j,i = j + 1 := ⟨i - 1,by omega⟩
     have hu:P (argBest bt j) u := hu
     show wpAny _ A.in1 (tryCatch (holding [v,v] (richCompare .Lt v u >>= _)) _ >>= _) _ _ _
     refine wpAny_bind (wpAny_tryCatch (wpAny_holding (wpAny_bind (hcmp (j + 1) (argBest bt j) v u _ _ _ hP hu ?_))))
     refine wpAny_bind (wpAny_holding (wpAny_truthy_bool ?_))
     refine wpAny_bind (wpAny_letGo (wpAny_pure ?_))
     cases hb:bt (j + 1) (argBest bt j) with
     | true =>
       rw [if_pos rfl]
       refine wpAny_bind (wpAny_updateSeq hS' rfl (wpAny_bind (wpAny_letGo ?_)))
       rw [hname]
       exact wpAny_pure ⟨plainId_quiet F.plain_min_loop _,nx #[v,v] _ _ (.inr ⟨v,Nat.succ_pos _,rfl,by show P (if bt (j + 1) (argBest bt j) = true then j + 1 else argBest bt j) v; rw [if_pos hb]; exact hP⟩) (Heap.get?_update_self _ hS' rfl) (oth _)⟩
     | false =>
       rw [if_neg Bool.false_ne_true]
       refine wpAny_bind (wpAny_letGo ?_)
       rw [hname]
       exact wpAny_pure ⟨plainId_quiet F.plain_min_loop _,nx #[u,u] _ _ (.inr ⟨u,Nat.succ_pos _,rfl,by show P (if bt (j + 1) (argBest bt j) = true then j + 1 else argBest bt j) u; rw [if_neg (by rw [hb]; exact Bool.false_ne_true)]; exact hu⟩) hS' fun _ _ _ q => q⟩
end
section
variable {prog:Program} {w:World} {A:Around} {E:Value -> Shared -> Prop} {s:Shared}
theorem Qf (a d:Value):argsOk "min" ⟨[a],[("default",d)]⟩ := by unfold argsOk; kernel_rfl
theorem Qg {x d:Value} {Q:Value -> Shared -> Prop}
   (h:wpAny (model prog w) A.in1 (pyIter x) (fun it s₂ => ∃ I fp wr n P St bt,it = .ref I /\ Walks prog w A.in1 I fp wr n P St /\ St 0 s₂.heap /\ (∀ b ∈ fp,b < s₂.heap.objs.size) /\ CmpOf prog w A.in1 .Lt P bt /\
     ∀ v h' tk,((0 < n /\ P (argBest bt (n - 1)) v) \/ (n = 0 /\ v = d)) -> (∀ b o,b ∉ wr -> s₂.heap.get? b = some o -> h'.get? b = some o) -> Q v { s₂ with heap := h',toks := tk }) E s) :
   wpAny (model prog w) A (call (.builtin "min") [x] [("default",d)]) Q E s := by
 have hname:(toString "min" ++ toString ".loop" : String) = "min.loop" := by decide
 refine wpAny_call (codeAny_call_builtin F.plain_min F.entry_min ?_)
 simp only [checkBuiltinCall,F.kind_min]
 have body:wpAny (model prog w) A.in1 (Builtin.«min» ⟨[x],[("default",d)]⟩) (fun fin s' => match fin with
     | .done f => (match (Except.ok f:Result) with | .ok (.ret v) => Q v s' | .ok _ => False | .error e => E e s')
     | .again c' => c'.quiet = true /\ codeAny (model prog w) A c' (fun r s' => match r with | .ok (.ret v) => Q v s' | .ok _ => False | .error e => E e s') s') E s := by
   show wpAny _ A.in1 (Builtin.Builtins.bindParams "min" ["key","default"] 0 ⟨[],[("default",d)]⟩ >>= _) _ _ s
   refine wpAny_bind (wpAny_of_eq (show Builtin.Builtins.bindParams "min" ["key","default"] 0 ⟨[],[("default",d)]⟩ = pure [none,some d] from rfl) ?_)
   refine wpAny_bind (wpAny_pure ?_)
   refine wpAny_bind (wpAny_mono h (fun it s₂ h₂ => ?_) fun _ _ e => e)
   obtain ⟨I,fp,wr,n,P,St,bt,rfl,W,hst,hfp,hcmp,hQ⟩ := h₂
   refine wpAny_bind (wpAny_newObj_type ?_)
   have hSf:s₂.heap.objs.size ∉ fp := fun hm => Nat.lt_irrefl _ (hfp _ hm)
   rw [hname]
   refine wpAny_pure ⟨plainId_quiet F.plain_min_loop _,ZY W bt hcmp s₂.heap.objs.size hSf "default" d n 0 _ #[] _ (Nat.zero_add _) (W.frame _ _ _ hst fun b _ o e => Heap.get?_push_of_some _ e) (.inl ⟨rfl,rfl⟩) (Heap.get?_push_size _ rfl) fun v h' tk hP hk => ?_⟩
   exact hQ v h' tk hP fun b o hbw e => hk b o hbw (Nat.ne_of_lt (Heap.lt_size e)) (Heap.get?_push_of_some _ e)
 cases hsig:Manifest.signature? "min" with
 | none => exact wpAny_pure body
 | some sig =>
   have ha := Qf x d
   simp only [argsOk,hsig] at ha
   have h2:Bind.checkArgs "min" sig ⟨[x],[("default",d)]⟩ = pure () := ha
   show wpAny _ A.in1 (Bind.checkArgs "min" sig ⟨[x],[("default",d)]⟩) _ _ s
   rw [h2]
   exact wpAny_pure body
end
section
variable {X:Cx}
def zb8 (K:PySem.W.Frag) (tl:TE):TE := fun σ H Q => tl σ H fun x H1 => ∃ (a:Addr) (ns:List Int),x = .ref a /\ SqL K H1 a (ns.map V.int) /\ (ns = [] -> Q .non H1) /\ (∀ M,M ∈ ns -> (∀ z ∈ ns,M <= z) -> Q (.int M) H1)
theorem XH {l:Expr} {tl:TE} {cc:Nat} {np kpos p pos:Pos} (hc:X.calm = true) (hg:Gl X "min") (hm:X.mg "min" = none) (hl:PE X l tl) (hs:starEach [l] X.env = [(false,eval l X.env)] := by rfl) :
   PE X (.Call (.Name "min" p) [l] [⟨some "default",.Constant .none cc np,kpos⟩] pos) (zb8 X.K tl) := by
 intro pins s σ H Q I h
 refine wpAny_Call_Name_kw (yQ I hg hm boot_min ?_ (by decide) (by decide))
 refine PyProof.Rows.callWith_kw (thn ((za hl zb hs) pos pins s σ H (fun vs H1 => match vs with
   | [x] => ∃ (a:Addr) (ns:List Int),x = .ref a /\ SqL X.K H1 a (ns.map V.int) /\ (ns = [] -> Q .non H1) /\ (∀ M,M ∈ ns -> (∀ z ∈ ns,M <= z) -> Q (.int M) H1)
   | _ => False) I h) fun us s1 ⟨vs,H1,I1,r1,q1⟩ => ?_) (by rw [hs]; rfl) (by rw [hs]; rfl) rfl rfl
 match vs,q1 with
 | [x],q1 =>
 obtain ⟨u,rfl,ru⟩ := vals1 r1
 refine thn ((Xu (nm := some "default") y0 Wz) pos pins s1 σ H1 (fun ws H2 => ws = [.non] /\ H2 = H1) I1 ⟨rfl,rfl⟩) fun us2 s2 ⟨ws,H2,I2,r2,e1,e2⟩ => ?_
 subst e1 e2
 obtain ⟨u2,rfl,ru2⟩ := vals1 r2
 obtain ⟨a,ns,rfl,hq,q0,q⟩ := q1
 cases (show u = Value.ref a from ru)
 cases (show u2 = Value.none from ru2)
 show wpAny _ _ (call (.builtin "min") [.ref a] [(Str.ofString "default",.none)]) _ _ _
 obtain ⟨its,rv,tp,hz⟩ := I2.list hq
 have hll := rv.length
 rw [List.length_map] at hll
 refine Qg (x0 I2 tp.isList hc fun s3 e W st hfp => ?_)
 subst e
 refine ⟨_,_,_,_,_,_,_,rfl,W,st,hfp,CmpOf.ints_lt (fun i => ns.getD i 0) (xA rv),fun v h' tk hP hk => ?_⟩
 have keep:Inv X pins σ H2 _ := I2.kept (t' := tk) fun b o e => hk b o (fun m => by
   have := Heap.lt_size e
   rw [List.mem_singleton.mp m] at this
   exact Nat.lt_irrefl _ this) (Heap.get?_push_of_some _ e)
 rw [List.size_toArray] at hP
 rcases hP with ⟨h0,hP⟩ | ⟨h0,rfl⟩
 · obtain ⟨t,rfl⟩ := xA rv _ _ hP
   obtain ⟨b1,b2⟩ := argBest_lt (fun i => ns.getD i 0) (its.length - 1)
   refine ⟨.int _,H2,keep,⟨t,rfl⟩,q _ (jo (by omega)) fun z hz => ?_⟩
   obtain ⟨j,hj,e⟩ := Yr hz
   rw [<- e]
   exact b2 j (by omega)
 · exact ⟨.non,H2,keep,rfl,q0 (List.length_eq_zero_iff.mp (by omega))⟩
end
end L2
namespace JI
open PySem L2 Lin Tre PySem.W
open Sta (R Ok sbs exch reg OkS OkSs stN HasR zK Low tr)
theorem zbx {K:PySem.W.Frag} {H:Hp} {n:Nat} {a b:Addr} {us vs:List V} {wss:List (List W)} (ha:H a = some (.lst us)) (hb:H b = some (.lst vs)) (hu:Txs H us wss) (hv:Txs H vs wss):EqR K H (n + 2) (.ref a) (.ref b) true := by
 have l1 := hu.len
 have l2 := hv.len
 refine jy (EqR.lsts (n := n + 1) (e := fun _ => true) (SqL.of ha) (SqL.of hb) (by omega) fun j hj => ?_) (all_true _)
 obtain ⟨ws,e1,p,ep,hp,_⟩ := hu.get (List.getElem?_eq_getElem hj)
 obtain ⟨ws',e2,q,eq,hq,_⟩ := hv.get (List.getElem?_eq_getElem (show j < vs.length by omega))
 rw [e1] at e2
 cases e2
 rw [List.getD_eq_getElem?_getD,List.getElem?_eq_getElem hj,ep,List.getD_eq_getElem?_getD,List.getElem?_eq_getElem (show j < vs.length by omega),eq]
 exact Yd (SqL.of hp) (SqL.of hq)
def Ye:Sp := fun vs H Q _ => ∃ (a:Addr) (us:List V) (A:Stc) (wide:Nat),vs = [.ref a,.int wide] /\ H a = some (.lst us) /\ zQ H us A /\ A.length <= 1000000 /\ ∀ (o:Option Nat) (H':Hp),Same H H' -> Low (reg A) wide o -> Q (oV o) H'
def jV:Sp := fun vs H Q _ => ∃ (a:Addr) (us:List V) (A:Stc) (high:Nat),vs = [.ref a,.int high] /\ H a = some (.lst us) /\ zQ H us A /\ A.length <= 1000000 /\ ∀ (o:Option Nat) (H':Hp),Same H H' -> Low (tr (reg A)) high o -> Q (oV o) H'
def Refd (C4 C6:Addr) (H:Hp) (y:V) (t:T) (E:XK):Prop := (∃ (n:List Int) (a:Addr) (xs:List V) (bs:List Bool),z4 t /\ Good t n /\ y = .ref a /\ H a = some (.lst xs) /\ JTs H xs bs /\ xs.length <= 1000 /\ (xs.length ≠ n.length \/ bs.all id = false) /\ ∀ H',Same H H' -> E (.ref C6) none H') \/
  (z4 t /\ NoL H y /\ ∀ H',Same H H' -> E (.ref C6) none H') \/ (¬ z4 t /\ ∀ H',Same H H' -> E (.ref C4) none H')
def spLh (C4 C6:Addr):Sp := fun vs H Q E => ∃ (x y:V) (t:T) (wide:Nat),vs = [x,y,.int wide] /\ At H x t /\ sz t <= 1000 /\
 ((∃ (n:List Int) (a:Addr) (xs:List V) (wss:List (List W)),z4 t /\ Good t n /\ y = .ref a /\ H a = some (.lst xs) /\ Txs H xs wss /\ xs.length = n.length /\ ∀ (P:R) (o:Option Nat) (H':Hp),HasR (Lvs wss) t P -> Same H H' -> Low P wide o -> Q (oV o) H') \/ Refd C4 C6 H y t E)
def Zj (C4 C6:Addr):Sp := fun vs H Q E => ∃ (x y:V) (t:T) (high:Nat),vs = [x,y,.int high] /\ At H x t /\ sz t <= 1000 /\
 ((∃ (n:List Int) (a:Addr) (xs:List V) (wss:List (List W)),z4 t /\ Good t n /\ y = .ref a /\ H a = some (.lst xs) /\ Txs H xs wss /\ xs.length = n.length /\ ∀ (P:R) (o:Option Nat) (H':Hp),HasR (Lvs wss) t P -> Same H H' -> Low (tr P) high o -> Q (oV o) H') \/ Refd C4 C6 H y t E)
theorem YZ {ns:List Nat} {M:Int} (hM:M ∈ ns.map fun n:Nat => (n:Int)) (hl:∀ z ∈ ns.map (fun n:Nat => (n:Int)),M <= z):∃ m:Nat,M = (m:Int) /\ m ∈ ns /\ ∀ z ∈ ns,m <= z := by
 obtain ⟨m,hm,rfl⟩ := List.mem_map.mp hM
 refine ⟨m,rfl,hm,fun z hz => ?_⟩
 have := hl (z:Int) (List.mem_map.mpr ⟨z,hz,rfl⟩)
 omega
section
variable {P:Program} {w:World} {K:PySem.W.Frag} {mg:Str -> Option Value} {base:Heap} {kA:Addr}
theorem zb9:zu ["stairs","wide"] ["stairs","wide"] (ze sLow) := ⟨rfl,rfl,rfl,by decide +kernel,rfl,by decide +kernel,by decide +kernel⟩
theorem zby {f:Addr} {fd:FuncData} (F:Fun K "lowest" "lowest" sLow f fd) (gWIDE:GI mg "WIDE" 0) (gHIGH:GI mg "HIGH" 1) (tmin:mg "min" = none):FnOk P w K mg base CX0 1 f fd ["stairs","wide"] Ye := by
 refine F.ok zb9 (fun vs H Q E h => ?_) (fun cdv A outer s H vs Q E hr h => ?_)
 · obtain ⟨a,us,A,wide,rfl,_⟩ := h
   rfl
 · obtain ⟨a,us,A1,wide,rfl,ha,hA,hn,q⟩ := h
   refine ⟨_,(zg (zn (XH rfl rfl tmin (z9 (Nc := ["stair","wide"]) (ix := [none,some 1]) rfl rfl (by refine' yi ?zz; case zz => exact (pv 0)) (fun _ _ _ _ _ => (zr (i := 0) (by show (["stair","wide"]:List Str).Nodup; decide +kernel) rfl (Or.inl rfl))) (fun _ _ _ _ _ => (Xy (zC wb (zk (yV (K := K) rfl) (pv 0) (zJ rfl gWIDE) (fun _ _ => rfl)) (pv 1) (zE _)))) (fun _ _ _ _ _ => (zk (yV (K := K) rfl) (pv 0) (zJ rfl gHIGH) (fun _ _ => rfl))))))),?_⟩
   have la := hA.len
   refine ⟨_,rfl,a,rfl,⟨_,SqL.of ha⟩,yv (K := K) (a := a) (xs := us) (fun i ys σ H2 => H2 = H /\ ys = ((((A1.take i).filter fun p => decide (p.1 <= wide)).map fun p => p.2).map fun n:Nat => (n:Int)).map V.int /\ ∃ o,σ = [o,some (.int (wide:Int))]) ⟨rfl,rfl,none,rfl⟩
     (fun i ys σ H2 hi ⟨e,e2,_⟩ => ⟨by rw [e2,List.length_map,List.length_map,List.length_map]; exact Nat.le_trans (List.length_filter_le _ _) (by rw [List.length_take]; exact Nat.le_trans (show _ <= 1000000 by omega) (by decide)),by rw [e]; exact SqL.of ha⟩) ?_ ?_⟩
   case refine_2 =>
     rintro i x ys σ H2 hx ⟨rfl,rfl,o,rfl⟩
     obtain ⟨p,ep,pa,rfl,hpa⟩ := hA.get' hx
     obtain ⟨hil,ev⟩ := List.getElem?_eq_some_iff.mp ep
     dsimp only [z6]
     refine zZ (p := (p.1:Int) <= (wide:Int)) (zS (yo (zl rfl) zU (SqT.of hpa) rfl) (zl rfl)) _ ?_
     rw [<- List.take_append_getElem hil,ev,List.filter_append]
     by_cases c:p.1 <= wide
     · rw [decide_eq_true (show (p.1:Int) <= (wide:Int) by omega)]
       refine iteT ⟨_,rfl,pa,_,_,_,rfl,rfl,SqT.of hpa,rfl,rfl,?_,_,rfl⟩
       rw [List.filter_cons,decide_eq_true c,if_pos rfl,List.map_append,List.map_append,List.map_append]
       rfl
     · rw [decide_eq_false (show ¬ (p.1:Int) <= (wide:Int) by omega)]
       refine iteF ⟨rfl,?_,_,rfl⟩
       rw [List.filter_cons,decide_eq_false c]
       show _ = ((((A1.take i).filter _ ++ []).map _).map _).map _
       rw [List.append_nil]
   rintro ys σ H2 ⟨rfl,rfl,_⟩ l nl
   rw [la,List.take_length]
   have S := zf (o := .lst (((((A1.filter fun p => decide (p.1 <= wide)).map fun p => p.2).map fun n:Nat => (n:Int)).map V.int))) nl
   obtain ⟨m1,m2⟩ := Sta.zau (A := A1) (w := wide) (ns := (A1.filter fun p => decide (p.1 <= wide)).map fun p => p.2) (fun n => by
     rw [List.mem_map]
     constructor
     · rintro ⟨p,hp,rfl⟩
       obtain ⟨h1,h2⟩ := List.mem_filter.mp hp
       exact ⟨p,h1,of_decide_eq_true h2,rfl⟩
     · rintro ⟨p,h1,h2,rfl⟩
       exact ⟨p,List.mem_filter.mpr ⟨h1,decide_eq_true h2⟩,rfl⟩)
   refine ⟨l,_,rfl,SqL.of zc,fun e => q none _ S (m1 (List.map_eq_nil_iff.mp e)),fun M hM hl => ?_⟩
   obtain ⟨m,rfl,hm,hl'⟩ := YZ hM hl
   exact q (some m) _ S (m2 m hm hl')
theorem zbz:zu ["stairs","high"] ["stairs","high"] (ze qV) := ⟨rfl,rfl,rfl,by decide +kernel,rfl,by decide +kernel,by decide +kernel⟩
theorem zaw {f:Addr} {fd:FuncData} (F:Fun K "narrowest" "narrowest" qV f fd) (gWIDE:GI mg "WIDE" 0) (gHIGH:GI mg "HIGH" 1) (tmin:mg "min" = none):FnOk P w K mg base CX0 1 f fd ["stairs","high"] jV := by
 refine F.ok zbz (fun vs H Q E h => ?_) (fun cdv A outer s H vs Q E hr h => ?_)
 · obtain ⟨a,us,A,high,rfl,_⟩ := h
   rfl
 · obtain ⟨a,us,A1,high,rfl,ha,hA,hn,q⟩ := h
   refine ⟨_,(zg (zn (XH rfl rfl tmin (z9 (Nc := ["stair","high"]) (ix := [none,some 1]) rfl rfl (by refine' yi ?zz; case zz => exact (pv 0)) (fun _ _ _ _ _ => (zr (i := 0) (by show (["stair","high"]:List Str).Nodup; decide +kernel) rfl (Or.inl rfl))) (fun _ _ _ _ _ => (Xy (zC wb (zk (yV (K := K) rfl) (pv 0) (zJ rfl gHIGH) (fun _ _ => rfl)) (pv 1) (zE _)))) (fun _ _ _ _ _ => (zk (yV (K := K) rfl) (pv 0) (zJ rfl gWIDE) (fun _ _ => rfl))))))),?_⟩
   have la := hA.len
   refine ⟨_,rfl,a,rfl,⟨_,SqL.of ha⟩,yv (K := K) (a := a) (xs := us) (fun i ys σ H2 => H2 = H /\ ys = ((((A1.take i).filter fun p => decide (p.2 <= high)).map fun p => p.1).map fun n:Nat => (n:Int)).map V.int /\ ∃ o,σ = [o,some (.int (high:Int))]) ⟨rfl,rfl,none,rfl⟩
     (fun i ys σ H2 hi ⟨e,e2,_⟩ => ⟨by rw [e2,List.length_map,List.length_map,List.length_map]; exact Nat.le_trans (List.length_filter_le _ _) (by rw [List.length_take]; exact Nat.le_trans (show _ <= 1000000 by omega) (by decide)),by rw [e]; exact SqL.of ha⟩) ?_ ?_⟩
   case refine_2 =>
     rintro i x ys σ H2 hx ⟨rfl,rfl,o,rfl⟩
     obtain ⟨p,ep,pa,rfl,hpa⟩ := hA.get' hx
     obtain ⟨hil,ev⟩ := List.getElem?_eq_some_iff.mp ep
     dsimp only [z6]
     refine zZ (p := (p.2:Int) <= (high:Int)) (zS (yo (zl rfl) zU (SqT.of hpa) rfl) (zl rfl)) _ ?_
     rw [<- List.take_append_getElem hil,ev,List.filter_append]
     by_cases c:p.2 <= high
     · rw [decide_eq_true (show (p.2:Int) <= (high:Int) by omega)]
       refine iteT ⟨_,rfl,pa,_,_,_,rfl,rfl,SqT.of hpa,rfl,rfl,?_,_,rfl⟩
       rw [List.filter_cons,decide_eq_true c,if_pos rfl,List.map_append,List.map_append,List.map_append]
       rfl
     · rw [decide_eq_false (show ¬ (p.2:Int) <= (high:Int) by omega)]
       refine iteF ⟨rfl,?_,_,rfl⟩
       rw [List.filter_cons,decide_eq_false c]
       show _ = ((((A1.take i).filter _ ++ []).map _).map _).map _
       rw [List.append_nil]
   rintro ys σ H2 ⟨rfl,rfl,_⟩ l nl
   rw [la,List.take_length]
   have S := zf (o := .lst (((((A1.filter fun p => decide (p.2 <= high)).map fun p => p.1).map fun n:Nat => (n:Int)).map V.int))) nl
   obtain ⟨m1,m2⟩ := Sta.zav (A := A1) (k := high) (ns := (A1.filter fun p => decide (p.2 <= high)).map fun p => p.1) (fun n => by
     rw [List.mem_map]
     constructor
     · rintro ⟨p,hp,rfl⟩
       obtain ⟨h1,h2⟩ := List.mem_filter.mp hp
       exact ⟨p,h1,of_decide_eq_true h2,rfl⟩
     · rintro ⟨p,h1,h2,rfl⟩
       exact ⟨p,List.mem_filter.mpr ⟨h1,decide_eq_true h2⟩,rfl⟩)
   refine ⟨l,_,rfl,SqL.of zc,fun e => q none _ S (m1 (List.map_eq_nil_iff.mp e)),fun M hM hl => ?_⟩
   obtain ⟨m,rfl,hm,hl'⟩ := YZ hM hl
   exact q (some m) _ S (m2 m hm hl')
theorem scLh:zu ["tree","texts","wide"] ["tree","texts","wide"] (ze sLh) := ⟨rfl,rfl,rfl,by decide +kernel,rfl,by decide +kernel,by decide +kernel⟩
theorem zca {f fT fL C4 C6:Addr} {fd dT dL:FuncData} (F:Fun K "least_high" "least_high" sLh f fd) (Ts:Callee P w K mg base (CXE P w) 28 "tree_stairs" fT dT ["tree","texts"] (Yc C4 C6)) (Lo:Callee P w K mg base CX0 1 "lowest" fL dL ["stairs","wide"] Ye) :
   FnOk P w K mg base (CXE P w) 29 f fd ["tree","texts","wide"] (spLh C4 C6) := by
 refine F.okE scLh (fun vs H Q E h => ?_) (fun cdv A outer s H vs Q E hr hh h => ?_)
 · obtain ⟨x,y,t,wide,rfl,_⟩ := h
   rfl
 · obtain ⟨x,y,t,wide,rfl,hA,hz,h⟩ := h
   refine ⟨_,(zg (zn (zj Lo.ok (hr.mono (by decide)) rfl Lo.bound Lo.kp Lo.bd .nil zB (za (zj Ts.ok hr rfl Ts.bound Ts.kp Ts.bd .nil y3 (za (pv 0) (za (pv 1) zb))) (za (pv 2) zb))))),?_⟩
   rcases h with ⟨n,a,xs,wss,iT,g,rfl,ha,hT,hl,q⟩ | h
   · refine ⟨_,rfl,_,rfl,x,.ref a,t,rfl,hA,hz,.inl ⟨n,a,xs,wss,iT,g,rfl,ha,hT,hl,fun P1 l us A1 H1 hR S1 nl hl1 hs oA lA => ?_⟩⟩
     refine ⟨_,rfl,l,us,A1,wide,rfl,hl1,hs,by omega,fun o H2 S2 low => ?_⟩
     exact q P1 o H2 hR (S1.trans S2) (low.of oA.2)
   · exact ⟨_,rfl,_,rfl,x,y,t,rfl,hA,hz,.inr h⟩
end
end JI
namespace Sta
open Tre Lin
structure Pc where
 l:Nat
 t:Nat
 r:Nat
 b:Nat
inductive PcsA (Ls:List R) (top below right:Nat):List T -> Nat -> List Pc -> Prop where
 | one {t:T} {left:Nat} {P:R} (h:HasR Ls t P) (rm:P (right - left) (below - top)):PcsA Ls top below right [t] left [⟨left,top,right,below⟩]
 | cons {t t2:T} {ts:List T} {left w:Nat} {P:R} {pcs:List Pc} (h:HasR Ls t P) (lw:Low (tr P) (below - top) (some w)) (r:PcsA Ls top below right (t2 :: ts) (left + w) pcs):PcsA Ls top below right (t :: t2 :: ts) left (⟨left,top,left + w,below⟩ :: pcs)
inductive PcsD (Ls:List R) (left right below:Nat):List T -> Nat -> List Pc -> Prop where
 | one {t:T} {top:Nat} {P:R} (h:HasR Ls t P) (rm:P (right - left) (below - top)):PcsD Ls left right below [t] top [⟨left,top,right,below⟩]
 | cons {t t2:T} {ts:List T} {top k:Nat} {P:R} {pcs:List Pc} (h:HasR Ls t P) (lw:Low P (right - left) (some k)) (r:PcsD Ls left right below (t2 :: ts) (top + k) pcs):PcsD Ls left right below (t :: t2 :: ts) top (⟨left,top,right,top + k⟩ :: pcs)
mutual
inductive zR (Ls:List R):T -> Pc -> List (Int × Pc) -> Prop where
 | leaf {i:Int} {p:Pc}:zR Ls (.int i) p [(i,p)]
 | bar {ps:List T} {p:Pc} {pcs:List Pc} {res:List (List (Int × Pc))} (h:PcsA Ls p.t p.b p.r ps p.l pcs) (r:SetL Ls ps pcs res):zR Ls (.tup [.str bar,.tup ps]) p res.flatten
 | dash {ps:List T} {p:Pc} {pcs:List Pc} {res:List (List (Int × Pc))} (h:PcsD Ls p.l p.r p.b ps p.t pcs) (r:SetL Ls ps pcs res):zR Ls (.tup [.str dash,.tup ps]) p res.flatten
inductive SetL (Ls:List R):List T -> List Pc -> List (List (Int × Pc)) -> Prop where
 | nil:SetL Ls [] [] []
 | cons {t:T} {p:Pc} {ts:List T} {pcs:List Pc} {a:List (Int × Pc)} {res:List (List (Int × Pc))} (h:zR Ls t p a) (r:SetL Ls ts pcs res):SetL Ls (t :: ts) (p :: pcs) (a :: res)
end
def Rm (P:R) (p:Pc):Prop := P (p.r - p.l) (p.b - p.t)
inductive RmL:List R -> List Pc -> Prop where
 | nil:RmL [] []
 | cons {P:R} {p:Pc} {Ps:List R} {pcs:List Pc} (h:Rm P p) (r:RmL Ps pcs):RmL (P :: Ps) (p :: pcs)
theorem least {f:Nat -> Prop} (h:∃ n,f n):∃ n,f n /\ ∀ m,f m -> n <= m := by
 obtain ⟨n,hn⟩ := h
 have:∀ k n,n <= k -> f n -> ∃ n,f n /\ ∀ m,f m -> n <= m := by
   intro k
   induction k with
   | zero =>
     intro n h1 h2
     exact ⟨n,h2,fun m _ => by omega⟩
   | succ k ih =>
     intro n h1 h2
     by_cases c:∃ m,m < n /\ f m
     · obtain ⟨m,m1,m2⟩ := c
       exact ih m (by omega) m2
     · exact ⟨n,h2,fun m hm => Nat.not_lt.mp fun z => c ⟨m,z,hm⟩⟩
 exact this n n (Nat.le_refl _) hn
theorem Xa {P:R} {w:Nat} (h:∃ k,P w k):∃ k,Low P w (some k) := by
 obtain ⟨k,a,b⟩ := least (f := fun k => P w k) h
 exact ⟨k,a,b⟩
inductive Parts (h:Nat):List R -> List Nat -> Prop where
 | nil:Parts h [] []
 | cons {P:R} {a:Nat} {Ps:List R} {as:List Nat} (p:P a h) (r:Parts h Ps as):Parts h (P :: Ps) (a :: as)
theorem jW:∀ (Ps:List R) (P:R) (w h:Nat),(Ps.foldl bes P) w h -> ∃ (a:Nat) (as:List Nat),P a h /\ Parts h Ps as /\ a + as.sum <= w
 | [],P,w,h,z => ⟨w,[],z,.nil,Nat.le_refl _⟩
 | Q :: Ps,P,w,h,z => by
   obtain ⟨a,as,⟨x,y,e,px,qy⟩,r,s⟩ := jW Ps (bes P Q) w h z
   exact ⟨x,y :: as,px,.cons qy r,by rw [List.sum_cons]; omega⟩
theorem cutA {Ls:List R} {top below right:Nat}:∀ {ps:List T} {P:R} {Ps:List R} {a:Nat} {as:List Nat} {left:Nat},zK Ls ps (P :: Ps) -> (∀ Q ∈ P :: Ps,Up Q) -> P a (below - top) -> Parts (below - top) Ps as -> left + a + as.sum <= right ->
   ∃ pcs,PcsA Ls top below right ps left pcs /\ RmL (P :: Ps) pcs
 | _,P,_,a,_,left,.cons h .nil,up,pa,.nil,le =>
   have z:P (right - left) (below - top) := (up P List.mem_cons_self).up pa (show a <= right - left by simp at le; omega) (Nat.le_refl _)
   ⟨_,.one h z,.cons z .nil⟩
 | _,P,_,a,_,left,.cons (ts := _ :: _) h (.cons h2 r2),up,pa,.cons (a := a2) (as := as) p2 q2,le => by
   obtain ⟨w,lw⟩ := Xa (P := tr P) (w := below - top) ⟨a,pa⟩
   have wa:w <= a := lw.2 a pa
   rw [List.sum_cons] at le
   obtain ⟨pcs,k1,k2⟩ := cutA (top := top) (below := below) (right := right) (left := left + w) (.cons h2 r2) (fun Q hQ => up Q (List.mem_cons_of_mem _ hQ)) p2 q2 (by omega)
   refine ⟨_,.cons h lw k1,.cons ?_ k2⟩
   show P (left + w - left) (below - top)
   rw [Nat.add_sub_cancel_left]
   exact lw.1
theorem jh:∀ (Ps:List R) (P:R) (w h:Nat),(Ps.foldl dwn P) w h -> ∃ (a:Nat) (as:List Nat),P w a /\ Parts w (Ps.map tr) as /\ a + as.sum <= h
 | [],P,w,h,z => ⟨h,[],z,.nil,Nat.le_refl _⟩
 | Q :: Ps,P,w,h,z => by
   obtain ⟨a,as,⟨x,y,e,px,qy⟩,r,s⟩ := jh Ps (dwn P Q) w h z
   exact ⟨x,y :: as,px,.cons qy r,by rw [List.sum_cons]; omega⟩
theorem cutD {Ls:List R} {left right below:Nat}:∀ {ps:List T} {P:R} {Ps:List R} {a:Nat} {as:List Nat} {top:Nat},zK Ls ps (P :: Ps) -> (∀ Q ∈ P :: Ps,Up Q) -> P (right - left) a -> Parts (right - left) (Ps.map tr) as -> top + a + as.sum <= below ->
   ∃ pcs,PcsD Ls left right below ps top pcs /\ RmL (P :: Ps) pcs
 | _,P,_,a,_,top,.cons h .nil,up,pa,.nil,le =>
   have z:P (right - left) (below - top) := (up P List.mem_cons_self).up pa (Nat.le_refl _) (show a <= below - top by simp at le; omega)
   ⟨_,.one h z,.cons z .nil⟩
 | _,P,_,a,_,top,.cons (ts := _ :: _) h (.cons h2 r2),up,pa,.cons (a := a2) (as := as) p2 q2,le => by
   obtain ⟨k,lw⟩ := Xa (P := P) (w := right - left) ⟨a,pa⟩
   have wa:k <= a := lw.2 a pa
   rw [List.sum_cons] at le
   obtain ⟨pcs,k1,k2⟩ := cutD (left := left) (right := right) (below := below) (top := top + k) (.cons h2 r2) (fun Q hQ => up Q (List.mem_cons_of_mem _ hQ)) p2 q2 (by omega)
   refine ⟨_,.cons h lw k1,.cons ?_ k2⟩
   show P (right - left) (top + k - top)
   rw [Nat.add_sub_cancel_left]
   exact lw.1
mutual
theorem Qh {Ls:List R} (hL:∀ L ∈ Ls,Up L):∀ {t:T} {P:R} {p:Pc},HasR Ls t P -> Rm P p -> p.l <= p.r -> p.t <= p.b -> ∃ res,zR Ls t p res
 | _,_,p,.leaf _ _,_,_,_ => ⟨_,.leaf⟩
 | _,_,p,.bar (P := P) (Ps := Ps) h,rm,le1,le2 => by
   obtain ⟨a,as,pa,ps,s⟩ := jW _ _ _ _ rm
   obtain ⟨pcs,k1,k2⟩ := cutA (Ls := Ls) (top := p.t) (below := p.b) (right := p.r) (left := p.l) h (zK.up hL h) pa ps (by omega)
   obtain ⟨res,k3⟩ := Zk hL h k2
   exact ⟨_,.bar k1 k3⟩
 | _,_,p,.dash (P := P) (Ps := Ps) h,rm,le1,le2 => by
   obtain ⟨a,as,pa,ps,s⟩ := jh _ _ _ _ rm
   obtain ⟨pcs,k1,k2⟩ := cutD (Ls := Ls) (left := p.l) (right := p.r) (below := p.b) (top := p.t) h (zK.up hL h) pa ps (by omega)
   obtain ⟨res,k3⟩ := Zk hL h k2
   exact ⟨_,.dash k1 k3⟩
theorem Zk {Ls:List R} (hL:∀ L ∈ Ls,Up L):∀ {ts:List T} {Ps:List R} {pcs:List Pc},zK Ls ts Ps -> RmL Ps pcs -> ∃ res,SetL Ls ts pcs res
 | _,_,_,.nil,.nil => ⟨[],.nil⟩
 | _,_,_,.cons h r,.cons (p := p) m n => by
   have := (HasR.up hL h).pos m
   obtain ⟨a,k1⟩ := Qh hL h m (by omega) (by omega)
   obtain ⟨res,k2⟩ := Zk hL r n
   exact ⟨_,.cons k1 k2⟩
end
mutual
theorem zR.keys0 {Ls:List R}:∀ {t:T} {p:Pc} {res:List (Int × Pc)},zR Ls t p res -> ∀ {n:List Int},Good t n -> res.map (·.1) = n
 | _,_,_,.leaf,n,g => by rw [Qa g]; rfl
 | _,_,_,.bar h r,n,g => by
   obtain ⟨nss,e,g⟩ := ZW g
   rw [e,List.map_flatten,SetL.keys0 r g]
 | _,_,_,.dash h r,n,g => by
   obtain ⟨nss,e,g⟩ := ZW g
   rw [e,List.map_flatten,SetL.keys0 r g]
theorem SetL.keys0 {Ls:List R}:∀ {ts:List T} {pcs:List Pc} {res:List (List (Int × Pc))},SetL Ls ts pcs res -> ∀ {nss:List (List Int)},zG ts nss -> res.map (List.map (·.1)) = nss
 | _,_,_,.nil,nss,g => by rw [Qb g]; rfl
 | _,_,_,.cons h r,nss,g => by
   obtain ⟨a,b,e,g,gs⟩ := X8 g
   rw [e,List.map_cons,zR.keys0 h g,SetL.keys0 r gs]
end
theorem zR.keys {Ls:List R} {t:T} {n:List Int} {p:Pc} {res:List (Int × Pc)} (g:Good t n) (h:zR Ls t p res):res.map (·.1) = n := zR.keys0 h g
theorem SetL.keys {Ls:List R} {ts:List T} {nss:List (List Int)} {pcs:List Pc} {res:List (List (Int × Pc))} (g:zG ts nss) (h:SetL Ls ts pcs res):res.map (List.map (·.1)) = nss := SetL.keys0 h g
theorem PcsA.rm {Ls:List R} {top below right:Nat}:∀ {ts:List T} {left:Nat} {pcs:List Pc} {i:Nat} {t:T} {p:Pc},PcsA Ls top below right ts left pcs -> ts[i]? = some t -> pcs[i]? = some p -> p.t = top /\ p.b = below /\ ∃ P,HasR Ls t P /\ Rm P p
 | _,_,_,0,t,p,.one h rm,e1,e2 => by
   cases e1
   cases e2
   exact ⟨rfl,rfl,_,h,rm⟩
 | _,_,_,i + 1,t,p,.one h rm,e1,e2 => by simp at e1
 | _,left,_,0,t,p,.cons (w := w) (P := P) h lw r,e1,e2 => by
   cases e1
   cases e2
   refine ⟨rfl,rfl,_,h,?_⟩
   show P (left + w - left) (below - top)
   rw [Nat.add_sub_cancel_left]
   exact lw.1
 | _,_,_,i + 1,t,p,.cons h lw r,e1,e2 => PcsA.rm (i := i) r (by simpa using e1) (by simpa using e2)
theorem PcsD.rm {Ls:List R} {left right below:Nat}:∀ {ts:List T} {top:Nat} {pcs:List Pc} {i:Nat} {t:T} {p:Pc},PcsD Ls left right below ts top pcs -> ts[i]? = some t -> pcs[i]? = some p -> p.l = left /\ p.r = right /\ ∃ P,HasR Ls t P /\ Rm P p
 | _,_,_,0,t,p,.one h rm,e1,e2 => by
   cases e1
   cases e2
   exact ⟨rfl,rfl,_,h,rm⟩
 | _,_,_,i + 1,t,p,.one h rm,e1,e2 => by simp at e1
 | _,top,_,0,t,p,.cons (k := k) (P := P) h lw r,e1,e2 => by
   cases e1
   cases e2
   refine ⟨rfl,rfl,_,h,?_⟩
   show P (right - left) (top + k - top)
   rw [Nat.add_sub_cancel_left]
   exact lw.1
 | _,_,_,i + 1,t,p,.cons h lw r,e1,e2 => PcsD.rm (i := i) r (by simpa using e1) (by simpa using e2)
def plc (first:Nat):List Nat -> List Nat
 | [] => [first]
 | a :: r => first :: plc (first + a) r
theorem PcsA.ws {Ls:List R} {top below right:Nat}:∀ {ts:List T} {left:Nat} {pcs:List Pc},PcsA Ls top below right ts left pcs -> ∃ ws:List Nat,ws.length + 1 = ts.length /\ (∀ (i:Nat) (t:T) (w:Nat),ts[i]? = some t -> ws[i]? = some w -> ∃ P,HasR Ls t P /\ Low (tr P) (below - top) (some w)) /\
   pcs = ((plc left ws).zip ((plc left ws ++ [right]).drop 1)).map fun q => ⟨q.1,top,q.2,below⟩
 | _,_,_,.one _ _ => ⟨[],rfl,fun i t w _ e => by simp at e,rfl⟩
 | _,left,_,.cons (w := w) (P := P) h lw r => by
   obtain ⟨ws,l,k,e⟩ := r.ws
   refine ⟨w :: ws,by simpa using l,fun i t u e1 e2 => ?_,?_⟩
   · match i,e1,e2 with
     | 0,e1,e2 =>
       cases e1
       cases e2
       exact ⟨P,h,lw⟩
     | i + 1,e1,e2 => exact k i t u (by simpa using e1) (by simpa using e2)
   · rw [e]
     obtain ⟨xs,ex⟩ : ∃ xs,plc (left + w) ws = (left + w) :: xs := by cases ws <;> exact ⟨_,rfl⟩
     show _ = (((left :: plc (left + w) ws).zip (((left :: plc (left + w) ws) ++ [right]).drop 1)).map fun q => (⟨q.1,top,q.2,below⟩ : Pc))
     rw [ex]
     rfl
theorem PcsD.ws {Ls:List R} {left right below:Nat}:∀ {ts:List T} {top:Nat} {pcs:List Pc},PcsD Ls left right below ts top pcs -> ∃ ws:List Nat,ws.length + 1 = ts.length /\ (∀ (i:Nat) (t:T) (w:Nat),ts[i]? = some t -> ws[i]? = some w -> ∃ P,HasR Ls t P /\ Low P (right - left) (some w)) /\
   pcs = ((plc top ws).zip ((plc top ws ++ [below]).drop 1)).map fun q => ⟨left,q.1,right,q.2⟩
 | _,_,_,.one _ _ => ⟨[],rfl,fun i t w _ e => by simp at e,rfl⟩
 | _,top,_,.cons (k := w) (P := P) h lw r => by
   obtain ⟨ws,l,k,e⟩ := r.ws
   refine ⟨w :: ws,by simpa using l,fun i t u e1 e2 => ?_,?_⟩
   · match i,e1,e2 with
     | 0,e1,e2 =>
       cases e1
       cases e2
       exact ⟨P,h,lw⟩
     | i + 1,e1,e2 => exact k i t u (by simpa using e1) (by simpa using e2)
   · rw [e]
     obtain ⟨xs,ex⟩ : ∃ xs,plc (top + w) ws = (top + w) :: xs := by cases ws <;> exact ⟨_,rfl⟩
     show _ = (((top :: plc (top + w) ws).zip (((top :: plc (top + w) ws) ++ [below]).drop 1)).map fun q => (⟨left,q.1,right,q.2⟩ : Pc))
     rw [ex]
     rfl
theorem q8 (first:Nat):∀ ws:List Nat,(plc first ws).length = ws.length + 1 := by
 intro ws
 induction ws generalizing first with
 | nil => rfl
 | cons a r ih => show (plc (first + a) r).length + 1 = _; rw [ih,List.length_cons]
theorem Xb:∀ (ws:List Nat) (first a:Nat),plc first (ws ++ [a]) = plc first ws ++ [first + ws.sum + a]
 | [],first,a => by simp [plc]
 | b :: r,first,a => by
   show first :: plc (first + b) (r ++ [a]) = first :: plc (first + b) r ++ [first + (b :: r).sum + a]
   rw [Xb r,List.sum_cons,<- Nat.add_assoc]
   rfl
theorem Xc:∀ (ws:List Nat) (first:Nat),∃ xs,plc first ws = xs ++ [first + ws.sum]
 | [],first => ⟨[],by simp [plc]⟩
 | b :: r,first => by
   obtain ⟨xs,e⟩ := Xc r (first + b)
   exact ⟨first :: xs,by show first :: plc (first + b) r = _; rw [e,List.sum_cons,<- Nat.add_assoc]; rfl⟩
end Sta
namespace L2
open PySem PySem.Spec PyProof.Rows
section
variable {prog:Program} {w:World} {A:Around} {E:Value -> Shared -> Prop} {s:Shared}
theorem Wa {it t:Addr} {i:Nat} {its:Array Value} {x:Value} {Q:Value -> Shared -> Prop} (hit:s.heap.IsTupleIter it t i) (ht:s.heap.IsTuple t its) (hx:its[i]? = some x)
   (hQ:∀ h',h'.IsTupleIter it t (i + 1) -> Heap.SameBut it s.heap h' -> Q x { s with heap := h' }):wpAny (model prog w) A (Builtin.SmallTypes.nextOf (.ref it)) Q E s := by
 obtain ⟨o,ho,hc,hd⟩ := id hit
 obtain ⟨ol,hol,_,nl,hdl⟩ := ht
 unfold Builtin.SmallTypes.nextOf
 refine wpAny_bind (wpAny_callSpecial?_slot (name := Str.ofString "__next__") hit.typeIs F.slot_tuple_iterator_next (wpAny_call_entry F.slot_tuple_iterator_next hit.typeIs F.entry_tuple_iterator_next ?_ (F.args_tuple_iterator_next_1 _)))
 show wpAny _ _ (field (.ref it) 0 >>= _) _ _ s
 refine wpAny_bind (wpAny_field ho hd (x := .ref t) rfl ?_)
 show wpAny _ _ (if (Value.ref t == Value.none) = true then _ else _) _ _ s
 rw [if_neg (show ¬ ((Value.ref t == Value.none) = true) from Bool.false_ne_true)]
 show wpAny _ _ (field (.ref it) 1 >>= _) _ _ s
 refine wpAny_bind (wpAny_field ho hd (x := .int i 0) rfl ?_)
 show wpAny _ _ (seqItems? (.ref t) >>= _) _ _ s
 refine wpAny_bind (wpAny_seqItems hol hdl ?_)
 simp only [Int.toNat_natCast,hx]
 refine wpAny_bind (wpAny_setField ho hd (by simp) (wpAny_pure ⟨x,rfl,wpAny_pure (hQ _ ?_ (Heap.SameBut.update ..))⟩))
 exact ⟨_,Heap.get?_update_self _ ho (Obj.isFreed_of_fields (Obj.data_mapFields hd _)),(Obj.cls_mapFields ..).trans hc,by rw [Obj.data_mapFields hd]; simp [rawInt]⟩
theorem Qi {it t:Addr} {i:Nat} {its:Array Value} {Q:Value -> Shared -> Prop} (hh:A.handled = none) (hit:s.heap.IsTupleIter it t i) (ht:s.heap.IsTuple t its) (hx:its[i]? = none)
   (hE:∀ h' e,Heap.ExtBut it s.heap h' -> (∃ o,h'.get? e = some o /\ o.cls = .type "StopIteration") -> E (.ref e) { s with heap := h' }):wpAny (model prog w) A (Builtin.SmallTypes.nextOf (.ref it)) Q E s := by
 obtain ⟨o,ho,hc,hd⟩ := id hit
 obtain ⟨ol,hol,_,nl,hdl⟩ := ht
 unfold Builtin.SmallTypes.nextOf
 refine wpAny_bind (wpAny_callSpecial?_slot (name := Str.ofString "__next__") hit.typeIs F.slot_tuple_iterator_next (wpAny_call_entry F.slot_tuple_iterator_next hit.typeIs F.entry_tuple_iterator_next ?_ (F.args_tuple_iterator_next_1 _)))
 show wpAny _ _ (field (.ref it) 0 >>= _) _ _ s
 refine wpAny_bind (wpAny_field ho hd (x := .ref t) rfl ?_)
 show wpAny _ _ (if (Value.ref t == Value.none) = true then _ else _) _ _ s
 rw [if_neg (show ¬ ((Value.ref t == Value.none) = true) from Bool.false_ne_true)]
 show wpAny _ _ (field (.ref it) 1 >>= _) _ _ s
 refine wpAny_bind (wpAny_field ho hd (x := .int i 0) rfl ?_)
 show wpAny _ _ (seqItems? (.ref t) >>= _) _ _ s
 refine wpAny_bind (wpAny_seqItems hol hdl ?_)
 simp only [Int.toNat_natCast,hx]
 refine wpAny_bind (wpAny_rule (wpAny_bind (wpAny_setField ho hd (by simp) ?_)))
 show wpAny _ _ (newExc (.type "StopIteration") [] >>= _) _ _ _
 refine wpAny_bind ?_
 simp only [newExc,newTuple]
 refine wpAny_bind (wpAny_newObj_type ?_ (by size_fits))
 refine wpAny_bind (m := firstArgMember _ _) (wpAny_of_eq (a := Value.none) (by first | rfl | (simp only [firstArgMember]; rfl)) ?_)
 refine wpAny_newObj_type ?_ (by size_fits)
 simp only [raiseNew]
 refine wpAny_bind (wpAny_handled ?_)
 first | rw [show A.in1.handled = none from hh] | rw [hh]
 refine wpAny_bind (wpAny_pure (wpAny_throw ?_))
 exact hE _ _ (((Heap.SameBut.update ..).extBut.push _).push _) ⟨_,Heap.get?_push_size _ rfl,rfl⟩
theorem Qj {z TI TO i1 i2 l1 l2:Addr} {k1 k2:Nat} {xs ys:Array Value} {x y a b:Value} {Q:Value -> Shared -> Prop} (D:ZipApart z TI TO i1 i2 l1 l2)
   (hz:IsZip s.heap z TI TO .none) (hTI:IsPair s.heap TI (.ref i1) (.ref i2)) (hTO:IsPair s.heap TO a b)
   (h1:s.heap.IsTupleIter i1 l1 k1) (h2:s.heap.IsListIter i2 l2 k2) (hl1:s.heap.IsTuple l1 xs) (hl2:s.heap.IsList l2 ys) (hx:xs[k1]? = some x) (hy:ys[k2]? = some y)
   (hQ:∀ h',IsZip h' z TI TO (rawInt s.heap.objs.size) -> IsPair h' TO x y -> h'.IsTupleIter i1 l1 (k1 + 1) -> h'.IsListIter i2 l2 (k2 + 1) -> IsPair h' s.heap.objs.size x y -> h'.objs.size = s.heap.objs.size + 1 ->
     (∀ c o,c ≠ z -> c ≠ TO -> c ≠ i1 -> c ≠ i2 -> s.heap.get? c = some o -> h'.get? c = some o) -> Q (.ref s.heap.objs.size) { s with heap := h' }) :
   wpAny (model prog w) A (Builtin.«zip.__next__» ⟨[.ref z],[]⟩) (fun fin s' => ∃ v,fin = .done (.ret v) /\ Q v s') E s := by
 show wpAny _ _ (field (.ref z) 2 >>= _) _ _ _
 refine wpAny_bind (wpAny_field hz rfl (x := .bool false) rfl ?_)
 show wpAny _ _ (field (.ref z) 3 >>= _) _ _ _
 refine wpAny_bind (wpAny_field hz rfl (x := .ref TI) rfl ?_)
 refine wpAny_bind (wpAny_seqItems hTI rfl ?_)
 show wpAny _ _ (Builtin.SmallTypes.ownedTupleIsFree (.ref z) >>= _) _ _ _
 refine wpAny_bind ?_
 unfold Builtin.SmallTypes.ownedTupleIsFree
 refine wpAny_bind (wpAny_field hz rfl (x := .none) rfl (wpAny_pure ?_))
 simp only [if_true]
 refine wpAny_bind (wpAny_rule ?_)
 refine wpAny_bind (wpAny_field hz rfl (x := .ref TO) rfl ?_)
 refine wpAny_bind (wpAny_setField_rec hz (by simp) fun g1 hz1 s1 => ?_)
 replace hz1:IsZip g1 z TI TO .ellipsis := hz1
 refine wpAny_bind ?_
 simp only [List.zipIdx_cons,List.zipIdx_nil,List.forIn_cons,List.forIn_nil]
 refine wpAny_bind (wpAny_bind (wpAny_onRaise ?_))
 show wpAny _ _ (Builtin.SmallTypes.nextOf (.ref i1) >>= _) _ _ _
 refine wpAny_bind (Wa (h1.extBut s1.extBut D.i1z) (hl1.extBut s1.extBut D.l1z) hx fun g2 h12 s2 => wpAny_pure ?_)
 have hTO2:IsPair g2 TO a b := s2.extBut _ _ D.TOi1 (s1.extBut _ _ D.TOz hTO)
 refine wpAny_bind (wpAny_seqItems hTO2 rfl ?_)
 refine wpAny_bind (wpAny_updateSeq_pair hTO2 fun g3 hTO3 s3 => ?_)
 replace hTO3:IsPair g3 TO x b := hTO3
 refine wpAny_bind (wpAny_letGo (wpAny_pure ?_))
 refine wpAny_bind (wpAny_bind (wpAny_onRaise ?_))
 show wpAny _ _ (Builtin.SmallTypes.nextOf (.ref i2) >>= _) _ _ _
 refine wpAny_bind (wpAny_nextOf_list_item (((h2.extBut s1.extBut D.i2z).extBut s2.extBut D.i12.symm).extBut s3.extBut D.TOi2.symm) (((hl2.extBut s1.extBut D.l2z).extBut s2.extBut D.l2i1).extBut s3.extBut D.l2TO) hy fun g4 h24 s4 => wpAny_pure ?_)
 have hTO4:IsPair g4 TO x b := s4.extBut _ _ D.TOi2 hTO3
 refine wpAny_bind (wpAny_seqItems hTO4 rfl ?_)
 refine wpAny_bind (wpAny_updateSeq_pair hTO4 fun g5 hTO5 s5 => ?_)
 replace hTO5:IsPair g5 TO x y := hTO5
 refine wpAny_bind (wpAny_letGo (wpAny_pure (wpAny_pure ?_)))
 refine wpAny_bind (wpAny_seqItems hTO5 rfl ?_)
 refine wpAny_bind (wpAny_newTuple ?_)
 have sz:g5.objs.size = s.heap.objs.size := by rw [s5.1,s4.1,s3.1,s2.1,s1.1]
 have hz5:IsZip g5 z TI TO .ellipsis := s5.extBut _ _ D.TOz.symm (s4.extBut _ _ D.i2z.symm (s3.extBut _ _ D.TOz.symm (s2.extBut _ _ D.i1z.symm hz1)))
 have keep:∀ c o,c ≠ z -> c ≠ TO -> c ≠ i1 -> c ≠ i2 -> s.heap.get? c = some o -> g5.get? c = some o := fun c o c1 c2 c3 c4 e => s5.extBut _ _ c2 (s4.extBut _ _ c4 (s3.extBut _ _ c2 (s2.extBut _ _ c3 (s1.extBut _ _ c1 e))))
 have h15:g5.IsTupleIter i1 l1 (k1 + 1) := ((h12.extBut s3.extBut D.TOi1.symm).extBut s4.extBut D.i12).extBut s5.extBut D.TOi1.symm
 have h25:g5.IsListIter i2 l2 (k2 + 1) := h24.extBut s5.extBut D.TOi2.symm
 have zlt:z < g5.objs.size := Heap.lt_size hz5
 show wpAny _ _ (Builtin.SmallTypes.ownedTupleHandOut (.ref z) (.ref g5.objs.size) >>= _) _ _ _
 refine wpAny_bind ?_
 unfold Builtin.SmallTypes.ownedTupleHandOut
 have hz6:IsZip (g5.push { cls := .type "tuple",data := .seq #[x,y] }) z TI TO .ellipsis := Heap.get?_push_of_some _ hz5
 refine wpAny_bind (wpAny_setField_rec hz6 (by simp) fun g7 hz7 s7 => ?_)
 replace hz7:IsZip g7 z TI TO (rawInt g5.objs.size) := hz7
 refine wpAny_setField_rec hz7 (by simp) fun g8 hz8 s8 => ?_
 replace hz8:IsZip g8 z TI TO (rawInt g5.objs.size) := hz8
 have up:∀ c o,c ≠ z -> g5.get? c = some o -> g8.get? c = some o := fun c o c1 e => s8.extBut _ _ c1 (s7.extBut _ _ c1 (Heap.get?_push_of_some _ e))
 have hT8:IsPair g8 g5.objs.size x y := s8.extBut _ _ (Nat.ne_of_gt zlt) (s7.extBut _ _ (Nat.ne_of_gt zlt) (Heap.get?_push_size _ rfl))
 have sz8:g8.objs.size = g5.objs.size + 1 := by rw [s8.1,s7.1,Heap.size_push]
 rw [sz] at hz8 hT8 sz8
 refine wpAny_pure ⟨_,rfl,?_⟩
 show Q (.ref g5.objs.size) _
 rw [sz]
 exact hQ g8 hz8 (up _ _ D.TOz hTO5) (h15.at fun o e => up _ o D.i1z e) (h25.at fun o e => up _ o D.i2z e) hT8 sz8 fun c o c1 c2 c3 c4 e => up c o c1 (keep c o c1 c2 c3 c4 e)
theorem Jf {z TI TO i1 i2 l1 l2:Addr} {k1:Nat} {xs:Array Value} {a b:Value} {Q:Fin -> Shared -> Prop} (hh:A.handled = none) (D:ZipApart z TI TO i1 i2 l1 l2)
   (hz:IsZip s.heap z TI TO .none) (hTI:IsPair s.heap TI (.ref i1) (.ref i2)) (h1:s.heap.IsTupleIter i1 l1 k1) (hl1:s.heap.IsTuple l1 xs) (hend:xs[k1]? = none)
   (hE:∀ h' e,(∀ c o,c ≠ z -> c ≠ i1 -> s.heap.get? c = some o -> h'.get? c = some o) -> (∃ o,h'.get? e = some o /\ o.cls = .type "StopIteration") -> E (.ref e) { s with heap := h' }) :
   wpAny (model prog w) A (Builtin.«zip.__next__» ⟨[.ref z],[]⟩) Q E s := by
 show wpAny _ _ (field (.ref z) 2 >>= _) _ _ _
 refine wpAny_bind (wpAny_field hz rfl (x := .bool false) rfl ?_)
 show wpAny _ _ (field (.ref z) 3 >>= _) _ _ _
 refine wpAny_bind (wpAny_field hz rfl (x := .ref TI) rfl ?_)
 refine wpAny_bind (wpAny_seqItems hTI rfl ?_)
 show wpAny _ _ (Builtin.SmallTypes.ownedTupleIsFree (.ref z) >>= _) _ _ _
 refine wpAny_bind ?_
 unfold Builtin.SmallTypes.ownedTupleIsFree
 refine wpAny_bind (wpAny_field hz rfl (x := .none) rfl (wpAny_pure ?_))
 simp only [if_true]
 refine wpAny_bind (wpAny_rule ?_)
 refine wpAny_bind (wpAny_field hz rfl (x := .ref TO) rfl ?_)
 refine wpAny_bind (wpAny_setField_rec hz (by simp) fun g1 hz1 s1 => ?_)
 replace hz1:IsZip g1 z TI TO .ellipsis := hz1
 refine wpAny_bind ?_
 simp only [List.zipIdx_cons,List.zipIdx_nil,List.forIn_cons,List.forIn_nil]
 refine wpAny_bind (wpAny_bind (wpAny_onRaise ?_))
 show wpAny _ _ (Builtin.SmallTypes.nextOf (.ref i1) >>= _) _ _ _
 refine wpAny_bind (Qi hh (h1.extBut s1.extBut D.i1z) (hl1.extBut s1.extBut D.l1z) hend fun g2 e s2 he => ?_)
 obtain ⟨oe,hoe,hce⟩ := he
 have hz2:IsZip g2 z TI TO .ellipsis := s2 _ _ D.i1z.symm hz1
 have hez:e ≠ z := fun x => by subst x; rw [hz2] at hoe; cases hoe; simp at hce
 exact wpAny_setField_rec hz2 (by simp) fun g3 _ s3 => hE g3 e (fun c o c1 c3 x => s3.extBut _ _ c1 (s2 _ _ c3 (s1.extBut _ _ c1 x))) ⟨oe,s3.extBut _ _ hez hoe,hce⟩
theorem Xd {z TI TO i1 i2 l1 l2:Addr} {k1 k2:Nat} {xs ys:Array Value} {x y a b:Value} {Q:Option Value -> Shared -> Prop} (D:ZipApart z TI TO i1 i2 l1 l2)
   (hz:IsZip s.heap z TI TO .none) (hTI:IsPair s.heap TI (.ref i1) (.ref i2)) (hTO:IsPair s.heap TO a b)
   (h1:s.heap.IsTupleIter i1 l1 k1) (h2:s.heap.IsListIter i2 l2 k2) (hl1:s.heap.IsTuple l1 xs) (hl2:s.heap.IsList l2 ys) (hx:xs[k1]? = some x) (hy:ys[k2]? = some y)
   (hQ:∀ h',IsZip h' z TI TO (rawInt s.heap.objs.size) -> IsPair h' TO x y -> h'.IsTupleIter i1 l1 (k1 + 1) -> h'.IsListIter i2 l2 (k2 + 1) -> IsPair h' s.heap.objs.size x y -> h'.objs.size = s.heap.objs.size + 1 ->
     (∀ c o,c ≠ z -> c ≠ TO -> c ≠ i1 -> c ≠ i2 -> s.heap.get? c = some o -> h'.get? c = some o) -> Q (some (.ref s.heap.objs.size)) { s with heap := h' }):wpAny (model prog w) A (pyNext (.ref z)) Q E s := by
 have hT:s.TypeIs (.ref z) "zip" := ⟨_,hz,rfl⟩
 unfold pyNext
 exact wpAny_bind (wpAny_attempt (wpAny_callSpecial?_slot (name := Str.ofString "__next__") hT F.slot_zip_next
   (wpAny_call_entry F.slot_zip_next hT F.entry_zip_next (Qj D hz hTI hTO h1 h2 hl1 hl2 hx hy fun h' a1 a2 a3 a4 a5 a6 a7 => wpAny_pure (hQ h' a1 a2 a3 a4 a5 a6 a7)) (F.args_zip_next_1 _))))
theorem Xr {z TI TO i1 i2 l1 l2:Addr} {k1:Nat} {xs:Array Value} {Q:Option Value -> Shared -> Prop} (hh:A.handled = none) (D:ZipApart z TI TO i1 i2 l1 l2)
   (hz:IsZip s.heap z TI TO .none) (hTI:IsPair s.heap TI (.ref i1) (.ref i2)) (h1:s.heap.IsTupleIter i1 l1 k1) (hl1:s.heap.IsTuple l1 xs) (hend:xs[k1]? = none)
   (hQ:∀ h',(∀ c o,c ≠ z -> c ≠ i1 -> s.heap.get? c = some o -> h'.get? c = some o) -> Q none { s with heap := h' }):wpAny (model prog w) A (pyNext (.ref z)) Q E s := by
 have hT:s.TypeIs (.ref z) "zip" := ⟨_,hz,rfl⟩
 unfold pyNext
 refine wpAny_bind (wpAny_attempt (wpAny_callSpecial?_slot (name := Str.ofString "__next__") hT F.slot_zip_next
   (wpAny_call_entry F.slot_zip_next hT F.entry_zip_next (Jf (a := .none) (b := .none) hh D hz hTI h1 hl1 hend fun h' e hk he => ?_) (F.args_zip_next_1 _))))
 obtain ⟨o,ho,hc⟩ := he
 refine wpAny_bind (wpAny_isInstance (T := "StopIteration") (b := true) ⟨o,ho,hc⟩ isSubtype_stop ?_)
 exact wpAny_pure (hQ _ hk)
end
def ItZT (K:PySem.W.Frag) (a b:Addr):It :=
 ⟨fun i H => ∃ xs ys x y,SqT K H a xs /\ SqL K H b ys /\ xs[i]? = some x /\ ys[i]? = some y,
  fun i H x H' => ∃ p u v,H p = none /\ x = .ref p /\ H' = upd H p (.tup [u,v]) /\ (∀ xs,SqT K H a xs -> xs[i]? = some u) /\ ∀ ys,SqL K H b ys -> ys[i]? = some v,
  fun i H => ∃ xs ys,SqT K H a xs /\ SqL K H b ys /\ xs.length <= i⟩
theorem Zl {h:Heap} {a c:Addr} {its:Array Value} {o:Obj} (hl:h.IsTuple a its) (hc:h.get? c = some o) (hn:o.cls ≠ .type "tuple"):a ≠ c := fun z => by
 obtain ⟨o',g1,g2,_⟩ := hl
 rw [z,hc] at g1
 cases g1
 exact hn g2
theorem jX {h:Heap} {z TI TO i1 i2 a b:Addr} {xs ys:Array Value} {k1 k2:Nat} {f0 v u:Value} (D:Dst z TI TO i1 i2) (aTO:a ≠ TO) (hz:IsZip h z TI TO f0) (hTO:IsPair h TO v u) (h1:h.IsTupleIter i1 a k1) (h2:h.IsListIter i2 b k2) (l1:h.IsTuple a xs) (l2:h.IsList b ys) :
   ZipApart z TI TO i1 i2 a b := by
 obtain ⟨o1,e1,c1,_⟩ := h1
 obtain ⟨o2,e2,c2,_⟩ := h2
 exact ⟨D.TIz,D.TOz,D.i1z,D.i2z,D.TITO,D.TIi1,D.TIi2,D.TOi1,D.TOi2,D.i12,Zl l1 hz (show Value.type "zip" ≠ .type "tuple" by decide),aTO,Zl l1 e1 (by rw [c1]; decide),Zl l1 e2 (by rw [c2]; decide),yT l2 hz (show Value.type "zip" ≠ .type "list" by decide),yT l2 hTO (show Value.type "tuple" ≠ .type "list" by decide),yT l2 e1 (by rw [c1]; decide),yT l2 e2 (by rw [c2]; decide)⟩
theorem Qk {P:Program} {w:World} {K:PySem.W.Frag} {elts:List Expr} {kx:Nat} {px:Pos} (a b z TI TO i1 i2:Addr) (D:Dst z TI TO i1 i2) (aTO:a ≠ TO) :
   Turn P w K (.Tuple elts kx px) (ItZT K a b) [z,TI,TO,i1,i2] z (fun i h => IsZip h z TI TO .none /\ IsPair h TI (.ref i1) (.ref i2) /\ (∃ v u,IsPair h TO v u) /\ h.IsTupleIter i1 a i /\ h.IsListIter i2 b i) where
 mem := by simp
 obj := fun i h st c hc => by
   obtain ⟨hz,hTI,⟨v,u,hTO⟩,⟨o1,e1,c1,d1⟩,⟨o2,e2,c2,d2⟩⟩ := st
   have hc:c = z \/ c = TI \/ c = TO \/ c = i1 \/ c = i2 := by simpa using hc
   rcases hc with rfl | rfl | rfl | rfl | rfl
   · exact ⟨_,hz,fun v y => by have y':Data.fields _ = Data.cell v := y; cases y'⟩
   · exact ⟨_,hTI,fun v y => by have y':Data.seq _ = Data.cell v := y; cases y'⟩
   · exact ⟨_,hTO,fun v y => by have y':Data.seq _ = Data.cell v := y; cases y'⟩
   · exact ⟨o1,e1,fun v y => by rw [d1] at y; cases y⟩
   · exact ⟨o2,e2,fun v y => by rw [d2] at y; cases y⟩
 keep := fun i h h' st k => by
   obtain ⟨hz,hTI,⟨v,u,hTO⟩,h1,h2⟩ := st
   exact ⟨k z (by simp) _ hz,k TI (by simp) _ hTI,⟨v,u,k TO (by simp) _ hTO⟩,h1.at fun o q => k i1 (by simp) o q,h2.at fun o q => k i2 (by simp) o q⟩
 item := by
   intro X hP hw hK hc i pins s σ H E I hf st hg
   subst hP hw hK
   obtain ⟨hz,hTI,⟨v0,u0,hTO⟩,h1,h2⟩ := st
   obtain ⟨xs,ys,x,y,hq1,hq2,hx,hy⟩ := hg
   obtain ⟨its,rv,tp0,hz1⟩ := I.tuple hq1
   have tp:s.heap.IsTuple a its.toArray := tp0
   obtain ⟨jts,rw',tq,hz2⟩ := I.list hq2
   obtain ⟨u,hu,ru⟩ := rv.get hx
   obtain ⟨v,hv,rv'⟩ := rw'.get hy
   have Z := jX D aTO hz hTO h1 h2 tp tq.isList
   refine Xd Z hz hTI hTO h1 h2 tp tq.isList (x := u) (y := v) (by simpa using hu) (by simpa using hv) fun h' a1 a2 a3 a4 a5 a6 hk => ?_
   refine ⟨_,rfl,wpAny_letOwnedTupleGo_zip a1 fun h'' hz'' hs => ?_⟩
   have lt:∀ {c o},s.heap.get? c = some o -> s.heap.objs.size ≠ c := fun e => Nat.ne_of_gt (Heap.lt_size e)
   have ne1 := lt hz
   have k2:∀ c o,c ∉ [z,TO,i1,i2] -> s.heap.get? c = some o -> h''.get? c = some o := fun c o m q => by
     have m:c ≠ z /\ c ≠ TO /\ c ≠ i1 /\ c ≠ i2 := by simpa using m
     exact (hs.2 c m.1).trans (hk c o m.1 m.2.1 m.2.2.1 m.2.2.2 q)
   have I1:Inv X pins σ H { s with heap := h'',toks := s.toks } := I.turnedL (t' := s.toks) k2 fun c m => hf c (by
     have m:c = z \/ c = TO \/ c = i1 \/ c = i2 := by simpa using m
     rcases m with rfl | rfl | rfl | rfl <;> simp)
   have hn:H s.heap.objs.size = none := I.hok.fresh (Nat.le_refl _)
   have FP := I.fpOk (b := s.heap.objs.size) (Nat.le_refl _) hn
   have hT2:h''.get? s.heap.objs.size = some { cls := .type "tuple",data := .seq #[u,v] } := (hs.2 _ ne1).trans a5
   have I2 := I1.track (p := s.heap.objs.size) (o := .tup [x,y]) hn (Heap.get?_none_of_le I.sz) FP.2.1 FP.2.2.2.2.1 FP.2.2.2.2.2
     ⟨by show 2 <= sizeLine; decide,[u,v],.cons ru (.cons rv' .nil),⟨_,hT2,rfl,_,rfl⟩⟩
   refine ⟨.ref s.heap.objs.size,_,I2,rfl,⟨_,x,y,hn,rfl,rfl,fun zs hy' => ?_,fun zs hy' => ?_⟩,⟨hz'',(hs.2 _ D.TIz).trans (hk _ _ D.TIz D.TITO D.TIi1 D.TIi2 hTI),⟨_,_,(hs.2 _ D.TOz).trans a2⟩,a3.at fun o q => (hs.2 _ D.i1z).trans q,a4.at fun o q => (hs.2 _ D.i2z).trans q⟩,fun c hc => ?_⟩
   · rw [I.tuple_inj hy' hq1]; exact hx
   · rw [I.list_inj hy' hq2]; exact hy
   · have hb2:c ≠ s.heap.objs.size := by
       have m:c = z \/ c = TI \/ c = TO \/ c = i1 \/ c = i2 := by simpa using hc
       rcases m with rfl | rfl | rfl | rfl | rfl
       · exact ne1.symm
       · exact (lt hTI).symm
       · exact (lt hTO).symm
       · obtain ⟨o,g,_⟩ := h1
         exact (lt g).symm
       · obtain ⟨o,g,_⟩ := h2
         exact (lt g).symm
     rw [zp hb2]
     exact (hf c hc).1
 done := by
   intro X hP hw hK hc i pins s σ H E I hf st hg
   subst hP hw hK
   obtain ⟨hz,hTI,⟨v0,u0,hTO⟩,h1,h2⟩ := st
   obtain ⟨xs,ys,hq1,hq2,hx⟩ := hg
   obtain ⟨its,rv,tp0,hz1⟩ := I.tuple hq1
   have tp:s.heap.IsTuple a its.toArray := tp0
   obtain ⟨jts,rw',tq,hz2⟩ := I.list hq2
   have l1 := rv.length
   have l2 := rw'.length
   have Z := jX D aTO hz hTO h1 h2 tp tq.isList
   refine Xr (I.ok.hd hc) Z hz hTI h1 tp ?_ fun h' hk => ⟨rfl,I.turnedL (t' := s.toks) (ch := [z,i1]) (fun c o m q => ?_) fun c m => hf c ?_⟩
   · simp
     omega
   · have m:c ≠ z /\ c ≠ i1 := by simpa using m
     exact hk c o m.1 m.2 q
   · have m:c = z \/ c = i1 := by simpa using m
     rcases m with rfl | rfl <;> simp
 self := fun _ _ _ _ _ st h => wpAny_pyIter_zip st.1 h
def xI (h:Heap) (l1 l2:Addr):Heap := ((((h.push { cls := .type "tuple_iterator",data := .fields #[.ref l1,.int 0 0] }).push { cls := .type "list_iterator",data := .fields #[.ref l2,.int 0 0] }).push { cls := .type "tuple",data := .seq #[.ref h.objs.size,.ref (h.objs.size + 1)] }).push { cls := .type "tuple",data := .seq #[.none,.none] }).push { cls := .type "zip",data := .fields #[.none,.bool false,.bool false,.ref (h.objs.size + 2),.ref (h.objs.size + 3)] }
theorem Wb (l1 l2:Addr) (xs ys:Array Value):Meets (Builtin.«zip.__new__» ⟨[.type "zip",.ref l1,.ref l2],[]⟩) (fun _ R s => s.heap.IsTuple l1 xs /\ s.heap.IsList l2 ys /\ R (.ok (.ret (.ref (s.heap.objs.size + 4)))) { s with heap := xI s.heap l1 l2 }) :=
 .of_wp fun prog w A R s h => by
   obtain ⟨hp,g,d,tk,os⟩ := s
   obtain ⟨hl1,hl2,h⟩ := h
   have hsub := sub_zip
   have hL1:Heap.IsTuple (Shared.heap ⟨hp,g,d,tk,os⟩) l1 xs := hl1
   have hL2:Heap.IsList (Shared.heap ⟨hp.push { cls := .type "tuple_iterator",data := .fields #[.ref l1,.int 0 0] },g,d,tk,os⟩) l2 ys := Heap.IsList.push hl2 _
   wp_walk using wpAny_pyIter_tuple hL1,wpAny_pyIter_list hL2
   refine ⟨_,rfl,?_⟩
   have z1:(hp.push { cls := .type "tuple_iterator",data := .fields #[.ref l1,.int 0 0] }).objs.size = hp.objs.size + 1 := Heap.size_push ..
   simp only [Heap.size_push]
   exact h
section
variable {prog:Program} {w:World} {A:Around} {E:Value -> Shared -> Prop} {s:Shared}
theorem Ql {l1 l2:Addr} {xs ys:Array Value} {Q:Value -> Shared -> Prop} (hl1:s.heap.IsTuple l1 xs) (hl2:s.heap.IsList l2 ys)
   (h:∀ h',IsZip h' (s.heap.objs.size + 4) (s.heap.objs.size + 2) (s.heap.objs.size + 3) .none -> IsPair h' (s.heap.objs.size + 2) (.ref s.heap.objs.size) (.ref (s.heap.objs.size + 1)) ->
     IsPair h' (s.heap.objs.size + 3) .none .none -> h'.IsTupleIter s.heap.objs.size l1 0 -> h'.IsListIter (s.heap.objs.size + 1) l2 0 -> (∀ c o,s.heap.get? c = some o -> h'.get? c = some o) -> Q (.ref (s.heap.objs.size + 4)) { s with heap := h' }) :
   wpAny (model prog w) A (call (.type "zip") [.ref l1,.ref l2]) Q E s := by
 refine callType_new F.called_zip (by decide) (F.typeCall_zip_2 _ _) (F.newCall_zip_2 _ _) (fun obj => F.args_object_init_3 obj _ _) F.entry_zip_new (Wb l1 l2 xs ys) ⟨hl1,hl2,?_⟩
 have up:∀ {h:Heap} {o:Obj} {c:Addr} {o':Obj},h.get? c = some o' -> (h.push o).get? c = some o' := fun e => Heap.get?_push_of_some _ e
 have g5:(xI s.heap l1 l2).get? (s.heap.objs.size + 4) = some { cls := .type "zip",data := .fields #[.none,.bool false,.bool false,.ref (s.heap.objs.size + 2),.ref (s.heap.objs.size + 3)] } := by
   unfold xI
   have := Heap.get?_push_size ((((s.heap.push { cls := .type "tuple_iterator",data := .fields #[.ref l1,.int 0 0] }).push { cls := .type "list_iterator",data := .fields #[.ref l2,.int 0 0] }).push { cls := .type "tuple",data := .seq #[.ref s.heap.objs.size,.ref (s.heap.objs.size + 1)] }).push { cls := .type "tuple",data := .seq #[.none,.none] }) (o := { cls := .type "zip",data := .fields #[.none,.bool false,.bool false,.ref (s.heap.objs.size + 2),.ref (s.heap.objs.size + 3)] }) rfl
   simpa only [Heap.size_push] using this
 have g4:(xI s.heap l1 l2).get? (s.heap.objs.size + 3) = some { cls := .type "tuple",data := .seq #[.none,.none] } := by
   unfold xI
   have := Heap.get?_push_size (((s.heap.push { cls := .type "tuple_iterator",data := .fields #[.ref l1,.int 0 0] }).push { cls := .type "list_iterator",data := .fields #[.ref l2,.int 0 0] }).push { cls := .type "tuple",data := .seq #[.ref s.heap.objs.size,.ref (s.heap.objs.size + 1)] }) (o := { cls := .type "tuple",data := .seq #[.none,.none] }) rfl
   exact up (by simpa only [Heap.size_push] using this)
 have g3:(xI s.heap l1 l2).get? (s.heap.objs.size + 2) = some { cls := .type "tuple",data := .seq #[.ref s.heap.objs.size,.ref (s.heap.objs.size + 1)] } := by
   unfold xI
   have := Heap.get?_push_size ((s.heap.push { cls := .type "tuple_iterator",data := .fields #[.ref l1,.int 0 0] }).push { cls := .type "list_iterator",data := .fields #[.ref l2,.int 0 0] }) (o := { cls := .type "tuple",data := .seq #[.ref s.heap.objs.size,.ref (s.heap.objs.size + 1)] }) rfl
   exact up (up (by simpa only [Heap.size_push] using this))
 have g2:(xI s.heap l1 l2).get? (s.heap.objs.size + 1) = some { cls := .type "list_iterator",data := .fields #[.ref l2,.int 0 0] } := by
   unfold xI
   have := Heap.get?_push_size (s.heap.push { cls := .type "tuple_iterator",data := .fields #[.ref l1,.int 0 0] }) (o := { cls := .type "list_iterator",data := .fields #[.ref l2,.int 0 0] }) rfl
   exact up (up (up (by simpa only [Heap.size_push] using this)))
 have g1:(xI s.heap l1 l2).get? s.heap.objs.size = some { cls := .type "tuple_iterator",data := .fields #[.ref l1,.int 0 0] } := up (up (up (up (Heap.get?_push_size _ rfl))))
 show _ /\ _
 exact ⟨⟨_,g5,rfl⟩,h _ g5 g3 g4 ⟨_,g1,rfl,rfl⟩ ⟨_,g2,rfl,rfl⟩ fun c o x => up (up (up (up (up x))))⟩
end
def zcb (K:PySem.W.Frag) (ta:TA):TI := fun σ H R => ta σ H fun vs H1 => ∃ a b,vs = [.ref a,.ref b] /\ (∃ xs,SqT K H1 a xs) /\ (∃ ys,SqL K H1 b ys) /\ R (ItZT K a b) H1
theorem zax {X:Cx} {l r:Expr} {ta:TA} {elts:List Expr} {kx:Nat} {px p pos:Pos} (hg:Gl X "zip") (hm:X.mg "zip" = none) (ha:PA X [l,r] ta) (hs:starEach [l,r] X.env = [(false,eval l X.env),(false,eval r X.env)] := by rfl) (hs2:starEach [r] X.env = [(false,eval r X.env)] := by rfl) :
   PI X (.Tuple elts kx px) (.Call (.Name "zip" p) [l,r] [] pos) (zcb X.K ta) := by
 intro pins s σ H R I h
 refine Call_ (yQ I hg hm boot_zip (PyProof.Rows.callWith_type1 (thn (ha pos pins s σ H _ I h) fun us s1 ⟨vs,H1,I1,r1,q1⟩ => ?_) (by rw [hs,hs2]) (by rw [hs2]; rfl)))
 obtain ⟨a,b,e,⟨xs,hq1⟩,⟨ys,hq2⟩,q⟩ := q1
 subst e
 cases r1 with
 | cons r rr =>
   cases rr with
   | cons r' rr =>
     cases rr
     cases r
     cases r'
     obtain ⟨its,rv,tp0,hz1⟩ := I1.tuple hq1
     have tp:s1.heap.IsTuple a its.toArray := tp0
     obtain ⟨jts,rw',tq,hz2⟩ := I1.list hq2
     have alt:a < s1.heap.objs.size := by
       obtain ⟨o,e,_⟩ := tp
       exact Heap.lt_size e
     refine Ql tp tq.isList fun h' a1 a2 a3 a4 a5 hk => ?_
     refine wpAny_pyIter_zip a1 ?_
     refine ⟨s1.heap.objs.size + 4,[s1.heap.objs.size + 4,s1.heap.objs.size + 2,s1.heap.objs.size + 3,s1.heap.objs.size,s1.heap.objs.size + 1],_,_,H1,rfl,I1.kept (t' := s1.toks) hk,
       Qk a b _ _ _ _ _ (WU _) (fun z => absurd alt (by rw [z]; exact Nat.not_lt.mpr (Nat.le_add_right _ _))),⟨a1,a2,⟨_,_,a3⟩,a4,a5⟩,fun c hc => ?_,q⟩
     have m:c = s1.heap.objs.size + 4 \/ c = s1.heap.objs.size + 2 \/ c = s1.heap.objs.size + 3 \/ c = s1.heap.objs.size \/ c = s1.heap.objs.size + 1 := by simpa using hc
     have le:s1.heap.objs.size <= c := ZL m
     exact I1.fpOk le (I1.hok.fresh le)
theorem Jg {K:PySem.W.Frag} {a b:Addr} {xs ys:List V} {g:TG} {tb:TS} {D:Ends} {σ:St} {H:Hp} (Pv:Nat -> St -> Hp -> Prop) (hl:xs.length = ys.length) (h0:Pv 0 σ H) (hq:∀ i σ H,i <= xs.length -> Pv i σ H -> SqT K H a xs /\ SqL K H b ys)
   (hs:∀ i x y σ H p,xs[i]? = some x -> ys[i]? = some y -> Pv i σ H -> H p = none -> g (.ref p) σ (upd H p (.tup [x,y])) fun σ2 H2 => tb { D with nx := Pv (i + 1),ct := Pv (i + 1),bk := D.nx } σ2 H2) (hd:∀ σ H,Pv xs.length σ H -> D.nx σ H) :
   ∃ W:Nat -> Nat -> St -> Hp -> Prop,(∃ m,W 0 m σ H) /\ ∀ i m σ H,W i m σ H ->
     ((ItZT K a b).stop i H /\ D.nx σ H) \/ ((ItZT K a b).go i H /\ ∃ N:St -> Hp -> Prop,(∀ σ' H',N σ' H' -> ∃ m',m' < m /\ W (i + 1) m' σ' H') /\ ∀ x H',(ItZT K a b).yld i H x H' -> g x σ H' fun σ2 H2 => tb { D with nx := N,ct := N,bk := D.nx } σ2 H2) := by
 refine ⟨fun i m σ H => m = xs.length - i /\ i <= xs.length /\ Pv i σ H,⟨xs.length,by simp,Nat.zero_le _,h0⟩,?_⟩
 rintro i m σ H ⟨rfl,hi,p⟩
 obtain ⟨z1,z2⟩ := hq i σ H hi p
 by_cases hlt:i < xs.length
 · refine .inr ⟨⟨xs,ys,xs[i],ys[i]'(by omega),z1,z2,List.getElem?_eq_getElem _,List.getElem?_eq_getElem _⟩,Pv (i + 1),fun σ' H' p' => ⟨xs.length - (i + 1),by omega,rfl,hlt,p'⟩,fun x H' y => ?_⟩
   obtain ⟨q,u,v,hn,e,e2,y1,y2⟩ := y
   subst e e2
   exact hs i u v σ H q (y1 xs z1) (y2 ys z2) p hn
 · have e:i = xs.length := by omega
   subst e
   exact .inl ⟨⟨xs,ys,z1,z2,Nat.le_refl _⟩,hd σ H p⟩
end L2
namespace JI
open PySem L2 Lin Tre PySem.W
open Sta (R Ok sbs exch reg OkS OkSs stN HasR zK Low tr Pc PcsA PcsD zR SetL plc)
def nV (m:Nat):V := .int (m:Int)
def pq (p:Pc):List V := [nV p.l,nV p.t,nV p.r,nV p.b]
def PcAt (H:Hp) (v:V) (p:Pc):Prop := ∃ a,v = .ref a /\ H a = some (.tup (pq p))
def z5 (H:Hp):List V -> List Pc -> Prop := Paired (PcAt H)
theorem PcAt.same {H H':Hp} (S:Same H H') {v:V} {p:Pc} (h:PcAt H v p):PcAt H' v p := let ⟨a,e,z⟩ := h; ⟨a,e,S _ _ z⟩
theorem z5.same {H H':Hp} (S:Same H H'):∀ {vs:List V} {ps:List Pc},z5 H vs ps -> z5 H' vs ps
 | _,_,.nil => .nil
 | _,_,.cons h t => .cons (h.same S) (z5.same S t)
theorem z5.len {H:Hp} {vs:List V} {ps:List Pc} (h:z5 H vs ps):vs.length = ps.length := Paired.length h
theorem z5.snoc {H:Hp} {vs:List V} {ps:List Pc} {v:V} {p:Pc} (h:z5 H vs ps) (r:PcAt H v p):z5 H (vs ++ [v]) (ps ++ [p]) := Paired.snoc h r
theorem z5.get {H:Hp}:∀ {vs:List V} {ps:List Pc} {i:Nat} {v:V},z5 H vs ps -> vs[i]? = some v -> ∃ p,ps[i]? = some p /\ PcAt H v p
 | _,_,_,_,.nil,e => by simp at e
 | _,_,0,_,.cons r _,e => by simp at e; subst e; exact ⟨_,rfl,r⟩
 | _,_,i + 1,v,.cons _ t,e => by
   obtain ⟨p,h1,h2⟩ := z5.get (i := i) (v := v) t (by simpa using e)
   exact ⟨p,by simpa using h1,h2⟩
def NpAt (H:Hp) (v:V) (q:Int × Pc):Prop := ∃ a u,v = .ref a /\ H a = some (.tup [.int q.1,u]) /\ PcAt H u q.2
def yk (H:Hp):List V -> List (Int × Pc) -> Prop := Paired (NpAt H)
theorem NpAt.same {H H':Hp} (S:Same H H') {v:V} {q:Int × Pc} (h:NpAt H v q):NpAt H' v q := let ⟨a,u,e,z,p⟩ := h; ⟨a,u,e,S _ _ z,p.same S⟩
theorem yk.same {H H':Hp} (S:Same H H'):∀ {vs:List V} {ps:List (Int × Pc)},yk H vs ps -> yk H' vs ps
 | _,_,.nil => .nil
 | _,_,.cons h t => .cons (h.same S) (yk.same S t)
theorem yk.len {H:Hp} {vs:List V} {ps:List (Int × Pc)} (h:yk H vs ps):vs.length = ps.length := Paired.length h
theorem yk.app {H:Hp}:∀ {vs us:List V} {ps qs:List (Int × Pc)},yk H vs ps -> yk H us qs -> yk H (vs ++ us) (ps ++ qs)
 | _,_,_,_,.nil,s => s
 | _,_,_,_,.cons r t,s => .cons r (yk.app t s)
theorem yk.upd {H:Hp} {l:Addr} {xs:List V} {o':HO} (hl:H l = some (.lst xs)):∀ {vs:List V} {ps:List (Int × Pc)},yk H vs ps -> yk (upd H l o') vs ps
 | _,_,.nil => .nil
 | _,_,.cons ⟨a,u,e,z,pa,e2,z2⟩ t => .cons ⟨a,u,e,by rw [zp (y9 z hl (by intro y; cases y))]; exact z,pa,e2,by rw [zp (y9 z2 hl (by intro y; cases y))]; exact z2⟩ (yk.upd hl t)
theorem jz {ws:List V} (h:1 <= ws.length):cutV ws none (some (-1)) = ws.dropLast := by
 unfold cutV
 rw [HT.xl,List.drop_zero,List.dropLast_eq_take]
 congr 1
 show (if (-1:Int) < 0 then (-1 + (ws.length:Int)).toNat else min (-1:Int).toNat ws.length) - 0 = ws.length - 1
 rw [if_pos (by decide)]
 omega
def q9:Sp := fun vs H Q _ => ∃ (first last:Nat) (a:Addr) (ws:List Nat),vs = [.int first,.int last,.ref a] /\ H a = some (.lst (ws.map nV)) /\ ws.length <= 1000 /\ ∀ (l:Addr) (H':Hp),Same H H' -> H' l = some (.lst ((plc first ws ++ [last]).map nV)) -> Q (.ref l) H'
structure Pts (H H0:Hp) (pa b:Addr) (ps:List T) (Ls:List R):Prop where
 parts:∃ ws,H pa = some (.tup ws) /\ AtL H ws ps
 xy:∃ bvs As,H b = some (.lst bvs) /\ yg H0 H bvs As /\ OkSs As Ls /\ ∀ A ∈ As,A.length <= 600
 two:2 <= ps.length
 good:∃ nss,zG ps nss /\ nss.flatten.length <= 24
 small:∀ p ∈ ps,sz p + 3 <= 96
 sm:Same H0 H
def spPa:Sp := fun vs H Q _ => ∃ (pa b pp:Addr) (ps:List T) (Ls:List R) (p:Pc) (pcs:List Pc) (H0:Hp),vs = [.ref pa,.ref b,.ref pp] /\ Pts H H0 pa b ps Ls /\ H pp = some (.tup (pq p)) /\ p.t <= p.b /\ PcsA Ls p.t p.b p.r ps p.l pcs /\ ∀ (l:Addr) (us:List V) (H':Hp),Same H H' -> H' l = some (.lst us) -> z5 H' us pcs -> Q (.ref l) H'
def spPd:Sp := fun vs H Q _ => ∃ (pa b pp:Addr) (ps:List T) (Ls:List R) (p:Pc) (pcs:List Pc) (H0:Hp),vs = [.ref pa,.ref b,.ref pp] /\ Pts H H0 pa b ps Ls /\ H pp = some (.tup (pq p)) /\ p.l <= p.r /\ PcsD Ls p.l p.r p.b ps p.t pcs /\ ∀ (l:Addr) (us:List V) (H':Hp),Same H H' -> H' l = some (.lst us) -> z5 H' us pcs -> Q (.ref l) H'
section
variable {P:Program} {w:World} {K:PySem.W.Frag} {mg:Str -> Option Value} {base:Heap} {kA:Addr}
theorem Zm:zu ["first","last","lengths","places","length"] ["first","last","lengths"] (ze wG) := ⟨rfl,rfl,rfl,by decide +kernel,rfl,by decide +kernel,by decide +kernel⟩
theorem Jh {f:Addr} {fd:FuncData} (F:Fun K "edges" "edges" wG f fd):FnOk P w K mg base CX0 1 f fd ["first","last","lengths"] q9 := by
 refine F.ok Zm (fun vs H Q E h => ?_) (fun cdv A outer s H vs Q E hr h => ?_)
 · obtain ⟨first,last,a,ws,rfl,_⟩ := h
   rfl
 · obtain ⟨first,last,a,ws,rfl,ha,hn,q⟩ := h
   refine ⟨_,(zd (zx (i := 3) Zm.nd rfl (Or.inl rfl) (zV (za (pv 0) zb)))
     (zd (yq PassesOwn.never rfl (yi (pv 2)) (zr (i := 4) Zm.nd rfl (Or.inl rfl))
     (zg (z8 (yz PySem.F.plainAttrs_list PySem.F.slot_list_append PySem.F.type_list_append ym (pv 3) (za (zw ya (zk zy (pv 3) (yP yt zh) (fun _ _ => rfl)) (pv 4)) zb)))))
     (zg (zn (zw Yq (pv 3) (zV (za (pv 1) zb))))))),?_⟩
   refine ⟨_,rfl,by show 1 <= sizeLine; decide,fun l nl => ?_⟩
   have S1 := zf (o := .lst [nV first]) nl
   have hl1:(upd H l (.lst [nV first])) l = some (.lst ((plc first []).map nV)) := zc
   change tSeq _ _ _ _ (upd H l (.lst [nV first]))
   generalize upd H l (.lst [nV first]) = H1 at S1 hl1
   refine run_seq ⟨_,rfl,a,rfl,⟨_,SqL.of (S1 _ _ ha)⟩,?_⟩
   refine xz (K := K) (a := a) (xs := ws.map nV) (fun i σ H2 => ∃ o:Option V,σ = [some (.int first),some (.int last),some (.ref a),some (.ref l),o] /\ Same H H2 /\ H2 l = some (.lst ((plc first (ws.take i)).map nV))) ⟨none,rfl,S1,hl1⟩ (fun i σ H2 _ ⟨_,_,S,_⟩ => SqL.of (S _ _ ha)) ?_ ?_
   · rintro i v σ H2 hi ⟨o,rfl,S2,hl2⟩
     rw [List.getElem?_map] at hi
     obtain ⟨m,hm,rfl⟩ := Option.map_eq_some_iff.mp hi
     obtain ⟨hil,ev⟩ := List.getElem?_eq_some_iff.mp hm
     refine zF ?_
     obtain ⟨xs,ex⟩ := Sta.Xc (ws.take i) first
     have lp := Sta.q8 first (ws.take i)
     rw [List.length_take] at lp
     have hl3:H2 l = some (.lst (xs.map nV ++ [nV (first + (ws.take i).sum)])) := by rw [hl2,ex,List.map_append]; rfl
     refine ⟨_,rfl,.inl ⟨rfl,_,SqL.of hl3⟩,_,rfl,1,rfl,l,_,_,_,rfl,rfl,SqL.of hl3,wQ _ _,_,rfl,_,_,rfl,rfl,l,_,_,rfl,rfl,hl2,by rw [List.length_map]; exact Nat.lt_of_le_of_lt (show _ <= 2000 by omega) (by decide),?_⟩
     refine ⟨_,rfl,zW S2 nl,?_⟩
     rw [zc,<- List.take_append_getElem hil,ev,Sta.Xb,List.map_append]
     show some (HO.lst (_ ++ [V.int (((first + (ws.take i).sum:Nat):Int) + (m:Int))])) = some (HO.lst (_ ++ [V.int (((first + (ws.take i).sum + m:Nat)):Int)]))
     rw [show (((first + (ws.take i).sum:Nat):Int) + (m:Int)) = (((first + (ws.take i).sum + m:Nat)):Int) by omega]
   · rintro σ H2 ⟨o,rfl,S2,hl2⟩
     rw [List.length_map,List.take_length] at hl2
     refine ⟨_,rfl,_,rfl,by show 1 <= sizeLine; decide,fun p1 np1 => ?_⟩
     have S3 := zf (o := .lst [nV last]) np1
     have hp1:(upd H2 p1 (.lst [nV last])) p1 = some (.lst [nV last]) := zc
     change rCat _ _ (upd H2 p1 (.lst [nV last])) _
     generalize upd H2 p1 (.lst [nV last]) = H3 at S3 hp1
     have lp := Sta.q8 first ws
     refine ⟨l,p1,_,_,rfl,rfl,S3 _ _ hl2,hp1,by rw [List.length_map,lp]; exact Nat.le_trans (show ws.length + 1 + [nV last].length <= 2000 by simp; omega) (by decide),fun p2 np2 => ?_⟩
     have e:(plc first ws).map nV ++ [nV last] = (plc first ws ++ [last]).map nV := by rw [List.map_append]; rfl
     rw [e]
     exact q p2 _ (S2.trans (S3.trans (zf np2))) zc
theorem scPa:zu ["parts","stairs","piece","high","widths","places"] ["parts","stairs","piece"] (ze sPa) := ⟨rfl,rfl,rfl,by decide +kernel,rfl,by decide +kernel,by decide +kernel⟩
theorem zcc {f fN fS fE:Addr} {fd dN dS dE:FuncData} (F:Fun K "pieces_across" "pieces_across" sPa f fd) (gLEFT:GI mg "LEFT" 0) (gTOP:GI mg "TOP" 1) (gRIGHT:GI mg "RIGHT" 2) (gBELOW:GI mg "BELOW" 3) (tzip:mg "zip" = none) (Na:Callee P w K mg base CX0 1 "narrowest" fN dN ["stairs","high"] jV)
   (So:Callee P w K mg base CX0 27 "stairs_of" fS dS ["tree","boxes"] (spSo 24)) (Ed:Callee P w K mg base CX0 1 "edges" fE dE ["first","last","lengths"] q9):FnOk P w K mg base CX0 28 f fd ["parts","stairs","piece"] spPa := by
 refine F.ok scPa (fun vs H Q E h => ?_) (fun cdv A outer s H vs Q E hr h => ?_)
 · obtain ⟨pa,b,pp,ps,Ls,p,pcs,H0,rfl,_⟩ := h
   rfl
 · obtain ⟨pa,b,pp,ps,Ls,p,pcs,H0,rfl,hP,hpp,htb,hA,q⟩ := h
   refine ⟨_,(zd (zx (i := 3) scPa.nd rfl (Or.inr rfl) (zw yS (zk zN (pv 2) (zJ rfl gBELOW) (fun _ _ => rfl)) (zk zN (pv 2) (zJ rfl gTOP) (fun _ _ => rfl))))
     (zd (wu (i := 4) (Nc := ["part","high","stairs"]) (ix := [none,some 3,some 1]) scPa.nd rfl (Or.inl rfl) rfl rfl (by exact (wn (yG WB (pv 0) xb (yL (yP yt zh))))) (fun _ _ _ _ _ => (zr (i := 0) (by show (["part","high","stairs"]:List Str).Nodup; decide +kernel) rfl (Or.inl rfl))) (fun _ _ _ _ _ => zX) (fun _ _ _ _ _ => (zj Na.ok (hr.mono (by decide)) rfl Na.bound Na.kp Na.bd .nil zB (za (zj So.ok hr rfl So.bound So.kp So.bd .nil zB (za (pv 0) (za (pv 2) zb))) (za (pv 1) zb)))))
     (zd (zx (i := 5) scPa.nd rfl (Or.inl rfl) (zj Ed.ok (hr.mono (by decide)) rfl Ed.bound Ed.kp Ed.bd .nil zB (za (zk zN (pv 2) (zJ rfl gLEFT) (fun _ _ => rfl)) (za (zk zN (pv 2) (zJ rfl gRIGHT) (fun _ _ => rfl)) (za (pv 4) zb)))))
     (zg (zn (z9 (Nc := ["left","right","piece"]) (ix := [none,none,some 2]) rfl rfl (by exact (jQ rfl tzip (za (pv 5) (za (yG xP (pv 5) (yL zh) xb) zb)))) (fun _ _ _ _ _ => (wv (K := K) (n := 2) rfl rfl (zP (zr (i := 0) (by show (["left","right","piece"]:List Str).Nodup; decide +kernel) rfl (Or.inl rfl)) (zP (zr (i := 1) (by show (["left","right","piece"]:List Str).Nodup; decide +kernel) rfl (Or.inl rfl)) yU)))) (fun _ _ _ _ _ => zX) (fun _ _ _ _ _ => (yK (za (pv 0) (za (zk (yV (K := K) rfl) (pv 2) (zJ rfl gTOP) (fun _ _ => rfl)) (za (pv 1) (za (zk (yV (K := K) rfl) (pv 2) (zJ rfl gBELOW) (fun _ _ => rfl)) zb)))))))))))),?_⟩
   obtain ⟨ws,hpa,hQ⟩ := hP.parts
   obtain ⟨bvs,As,hb,hB,hO,h600⟩ := hP.xy
   obtain ⟨nss,hG,n24⟩ := hP.good
   have lq := hQ.len
   have two := hP.two
   have l24:ps.length <= 24 := Nat.le_trans hG.le n24
   obtain ⟨wl,lw,hw,epc⟩ := hA.ws
   refine wq (v := .int ((p.b - p.t:Nat):Int)) (by
     rw [show ((p.b - p.t:Nat):Int) = (p.b:Int) - (p.t:Int) by omega]
     exact zS (yo (zl rfl) zU (SqT.of hpp) rfl) (yo (zl rfl) zU (SqT.of hpp) rfl)) ?_
   refine ⟨_,rfl,1,rfl,_,rfl,pa,ws,rfl,SqT.of hpa,?_,fun pc nc => ?_⟩
   · rw [HT.xl]
     show ¬ (0 = 0 /\ (if (-1:Int) < 0 then (-1 + (ws.length:Int)).toNat else min (-1:Int).toNat ws.length) = ws.length)
     rw [if_pos (by decide)]
     omega
   rw [jz (by omega)]
   have S1 := zf (o := .tup ws.dropLast) nc
   have hpc:(upd H pc (.tup ws.dropLast)) pc = some (.tup ws.dropLast) := zc
   generalize upd H pc (.tup ws.dropLast) = H1 at S1 hpc
   have ldl:ws.dropLast.length = wl.length := by rw [List.length_dropLast]; omega
   refine ⟨pc,rfl,⟨_,SqT.of hpc⟩,xR (K := K) (a := pc) (xs := ws.dropLast) (fun i ys σ H2 => ys = (wl.take i).map nV /\ Same H1 H2 /\ ∃ o,σ = [o,some (.int ((p.b - p.t:Nat):Int)),some (.ref b)]) ⟨rfl,Same.refl _,none,rfl⟩
     (fun i ys σ H2 hi ⟨e,S,_⟩ => ⟨by rw [e,List.length_map,List.length_take]; exact Nat.le_trans (show _ <= 1000 by omega) (by decide),SqT.of (S _ _ hpc)⟩) ?_ ?_⟩
   case refine_2 =>
     rintro i y ys σ H2 hy ⟨rfl,S2,o,rfl⟩
     have hi := (List.getElem?_eq_some_iff.mp hy).1
     have hy':ws[i]? = some y := by
       rw [List.getElem?_eq_getElem hi,List.getElem_dropLast] at hy
       rw [List.getElem?_eq_getElem (by omega)]
       exact hy
     obtain ⟨tp,ep,hAp⟩ := hQ.get hy'
     have pm:tp ∈ ps := List.mem_of_getElem? ep
     obtain ⟨np,enp,gp⟩ := hG.get ep
     have hiw:i < wl.length := by omega
     obtain ⟨P1,hP1,low1⟩ := hw i tp _ ep (List.getElem?_eq_getElem hiw)
     have ln := wJ (List.mem_of_getElem? enp)
     have S12 := S1.trans S2
     dsimp only [z6,tYes]
     refine iteT ?_
     refine ⟨_,rfl,_,rfl,y,tp,np,b,bvs,As,Ls,P1,H0,rfl,hAp.same S12,gp,hP1,S12 _ _ hb,hB.same S12,hO,h600,by omega,by have := hP.small tp pm; omega,by decide,hP.sm.trans S12,fun l us A1 H3 S3 nl hl hs oA lA => ?_⟩
     refine ⟨_,rfl,l,us,A1,p.b - p.t,rfl,hl,hs,by omega,fun o4 H4 S4 low4 => ?_⟩
     have e4:o4 = some wl[i] := Low.uniq (low4.of (P := tr (reg A1)) (Q := tr P1) fun w k => oA.2 k w) low1
     subst e4
     refine ⟨?_,S2.trans (S3.trans S4),_,rfl⟩
     rw [<- List.take_append_getElem hiw,List.map_append]
     rfl
   rintro ys σ H2 ⟨rfl,S2,_⟩ lw1 nlw
   rw [ldl,List.take_length]
   have S3 := S1.trans (S2.trans (zf (o := .lst (wl.map nV)) nlw))
   have hlw:(upd H2 lw1 (.lst (wl.map nV))) lw1 = some (.lst (wl.map nV)) := zc
   generalize upd H2 lw1 (.lst (wl.map nV)) = H3 at S3 hlw
   try dsimp only
   have hpp3 := S3 _ _ hpp
   refine ⟨_,rfl,pp,_,_,_,rfl,rfl,SqT.of hpp3,rfl,_,rfl,pp,_,_,_,rfl,rfl,SqT.of hpp3,rfl,_,rfl,p.l,p.r,lw1,wl,rfl,hlw,by omega,fun lp H4 S4 hlp => ?_⟩
   have S34 := S3.trans S4
   have hpp4 := S4 _ _ hpp3
   refine ⟨_,rfl,_,rfl,_,rfl,lp,_,rfl,SqL.of hlp,fun l2 nl2 => ?_⟩
   have pl := Sta.q8 p.l wl
   have ec:cutV ((plc p.l wl ++ [p.r]).map nV) (some 1) none = ((plc p.l wl ++ [p.r]).drop 1).map nV := by
     have := we ((plc p.l wl ++ [p.r]).map nV) 1 (by rw [List.length_map,List.length_append]; simp)
     rw [List.map_drop]
     exact this
   rw [ec]
   have S5 := zf (o := .lst (((plc p.l wl ++ [p.r]).drop 1).map nV)) nl2
   have hl2:(upd H4 l2 (.lst (((plc p.l wl ++ [p.r]).drop 1).map nV))) l2 = some (.lst (((plc p.l wl ++ [p.r]).drop 1).map nV)) := zc
   have hlp5 := S5 _ _ hlp
   have hpp5 := S5 _ _ hpp4
   generalize upd H4 l2 (.lst (((plc p.l wl ++ [p.r]).drop 1).map nV)) = H5 at S5 hl2 hlp5 hpp5
   have lmin:min ((plc p.l wl ++ [p.r]).map nV).length (((plc p.l wl ++ [p.r]).drop 1).map nV).length = wl.length + 1 := by
     rw [List.length_map,List.length_map,List.length_drop,List.length_append,pl]
     simp
   have lz:((plc p.l wl).zip ((plc p.l wl ++ [p.r]).drop 1)).length = wl.length + 1 := by
     rw [List.length_zip,List.length_drop,List.length_append,pl]
     simp
   refine ⟨lp,l2,rfl,⟨_,SqL.of hlp5⟩,⟨_,SqL.of hl2⟩,Zc (K := K) (a := lp) (b := l2) (xs := (plc p.l wl ++ [p.r]).map nV) (ys := ((plc p.l wl ++ [p.r]).drop 1).map nV) (fun i ys σ H6 => z5 H6 ys ((((plc p.l wl).zip ((plc p.l wl ++ [p.r]).drop 1)).take i).map fun q => ⟨q.1,p.t,q.2,p.b⟩) /\ Same H5 H6 /\ ∃ o o2,σ = [o,o2,some (.ref pp)]) ⟨.nil,Same.refl _,none,none,rfl⟩
     (fun i ys σ H6 hi ⟨e,S,_⟩ => ⟨by rw [e.len,List.length_map,List.length_take]; exact Nat.le_trans (show _ <= 1000 by omega) (by decide),SqL.of (S _ _ hlp5),SqL.of (S _ _ hl2)⟩) ?_ ?_⟩
   case refine_2 =>
     rintro i x y ys σ H6 tpa hx hy ⟨hY,S6,o,o2,rfl⟩ ntp
     rw [List.getElem?_map] at hx hy
     obtain ⟨x1,hx1,rfl⟩ := Option.map_eq_some_iff.mp hx
     obtain ⟨y1,hy1,rfl⟩ := Option.map_eq_some_iff.mp hy
     have hil:i < wl.length + 1 := by
       have := (List.getElem?_eq_some_iff.mp hy1).1
       rw [List.length_drop,List.length_append,pl] at this
       simp at this
       omega
     have hx2:(plc p.l wl)[i]? = some x1 := by
       rw [List.getElem?_append_left (by omega)] at hx1
       exact hx1
     have St := zf (o := .tup [nV x1,nV y1]) ntp
     have hpp6 := S6 _ _ hpp5
     refine ⟨tpa,_,rfl,SqT.of zc,rfl,_,_,rfl,_,_,rfl,rfl,?_⟩
     dsimp only [z6,tYes]
     refine iteT ?_
     generalize upd H6 tpa (.tup [nV x1,nV y1]) = H7 at St
     have hpp7 := St _ _ hpp6
     refine Yt (v1 := nV x1) (v2 := nV p.t) (v3 := nV y1) (v4 := nV p.b) (zl rfl) (yo (zl rfl) zU (SqT.of hpp7) rfl) (zl rfl) (yo (zl rfl) zU (SqT.of hpp7) rfl) (fun tq ntq => ?_)
     have Sq := zf (o := .tup [nV x1,nV p.t,nV y1,nV p.b]) ntq
     refine ⟨?_,S6.trans (St.trans Sq),_,_,rfl⟩
     have ez:((plc p.l wl).zip ((plc p.l wl ++ [p.r]).drop 1))[i]? = some (x1,y1) := List.getElem?_zip_eq_some.mpr ⟨hx2,hy1⟩
     obtain ⟨hzl,evz⟩ := List.getElem?_eq_some_iff.mp ez
     rw [<- List.take_append_getElem hzl,evz,List.map_append]
     exact (hY.same (St.trans Sq)).snoc ⟨tq,rfl,zc⟩
   rintro ys σ H6 ⟨hY,S6,_⟩ lr nlr
   rw [lmin,<- lz,List.take_length,<- epc] at hY
   exact q lr ys _ (S34.trans (S5.trans (S6.trans (zf nlr)))) zc (hY.same (zf nlr))
end
end JI
namespace JI
open PySem L2 Lin Tre PySem.W
open Sta (R Ok sbs exch reg OkS OkSs stN HasR zK Low tr Pc PcsA PcsD zR SetL plc)
section
variable {P:Program} {w:World} {K:PySem.W.Frag} {mg:Str -> Option Value} {base:Heap} {kA:Addr}
theorem scPd:zu ["parts","stairs","piece","wide","heights","places"] ["parts","stairs","piece"] (ze sPd) := ⟨rfl,rfl,rfl,by decide +kernel,rfl,by decide +kernel,by decide +kernel⟩
theorem zcd {f fN fS fE:Addr} {fd dN dS dE:FuncData} (F:Fun K "pieces_down" "pieces_down" sPd f fd) (gLEFT:GI mg "LEFT" 0) (gTOP:GI mg "TOP" 1) (gRIGHT:GI mg "RIGHT" 2) (gBELOW:GI mg "BELOW" 3) (tzip:mg "zip" = none) (Lo:Callee P w K mg base CX0 1 "lowest" fN dN ["stairs","wide"] Ye)
   (So:Callee P w K mg base CX0 27 "stairs_of" fS dS ["tree","boxes"] (spSo 24)) (Ed:Callee P w K mg base CX0 1 "edges" fE dE ["first","last","lengths"] q9):FnOk P w K mg base CX0 28 f fd ["parts","stairs","piece"] spPd := by
 refine F.ok scPd (fun vs H Q E h => ?_) (fun cdv A outer s H vs Q E hr h => ?_)
 · obtain ⟨pa,b,pp,ps,Ls,p,pcs,H0,rfl,_⟩ := h
   rfl
 · obtain ⟨pa,b,pp,ps,Ls,p,pcs,H0,rfl,hP,hpp,htb,hA,q⟩ := h
   refine ⟨_,(zd (zx (i := 3) scPd.nd rfl (Or.inr rfl) (zw yS (zk zN (pv 2) (zJ rfl gRIGHT) (fun _ _ => rfl)) (zk zN (pv 2) (zJ rfl gLEFT) (fun _ _ => rfl))))
     (zd (wu (i := 4) (Nc := ["part","wide","stairs"]) (ix := [none,some 3,some 1]) scPd.nd rfl (Or.inl rfl) rfl rfl (by exact (wn (yG WB (pv 0) xb (yL (yP yt zh))))) (fun _ _ _ _ _ => (zr (i := 0) (by show (["part","wide","stairs"]:List Str).Nodup; decide +kernel) rfl (Or.inl rfl))) (fun _ _ _ _ _ => zX) (fun _ _ _ _ _ => (zj Lo.ok (hr.mono (by decide)) rfl Lo.bound Lo.kp Lo.bd .nil zB (za (zj So.ok hr rfl So.bound So.kp So.bd .nil zB (za (pv 0) (za (pv 2) zb))) (za (pv 1) zb)))))
     (zd (zx (i := 5) scPd.nd rfl (Or.inl rfl) (zj Ed.ok (hr.mono (by decide)) rfl Ed.bound Ed.kp Ed.bd .nil zB (za (zk zN (pv 2) (zJ rfl gTOP) (fun _ _ => rfl)) (za (zk zN (pv 2) (zJ rfl gBELOW) (fun _ _ => rfl)) (za (pv 4) zb)))))
     (zg (zn (z9 (Nc := ["top","below","piece"]) (ix := [none,none,some 2]) rfl rfl (by exact (jQ rfl tzip (za (pv 5) (za (yG xP (pv 5) (yL zh) xb) zb)))) (fun _ _ _ _ _ => (wv (K := K) (n := 2) rfl rfl (zP (zr (i := 0) (by show (["top","below","piece"]:List Str).Nodup; decide +kernel) rfl (Or.inl rfl)) (zP (zr (i := 1) (by show (["top","below","piece"]:List Str).Nodup; decide +kernel) rfl (Or.inl rfl)) yU)))) (fun _ _ _ _ _ => zX) (fun _ _ _ _ _ => (yK (za (zk (yV (K := K) rfl) (pv 2) (zJ rfl gLEFT) (fun _ _ => rfl)) (za (pv 0) (za (zk (yV (K := K) rfl) (pv 2) (zJ rfl gRIGHT) (fun _ _ => rfl)) (za (pv 1) zb)))))))))))),?_⟩
   obtain ⟨ws,hpa,hQ⟩ := hP.parts
   obtain ⟨bvs,As,hb,hB,hO,h600⟩ := hP.xy
   obtain ⟨nss,hG,n24⟩ := hP.good
   have lq := hQ.len
   have two := hP.two
   have l24:ps.length <= 24 := Nat.le_trans hG.le n24
   obtain ⟨wl,lw,hw,epc⟩ := hA.ws
   refine wq (v := .int ((p.r - p.l:Nat):Int)) (by
     rw [show ((p.r - p.l:Nat):Int) = (p.r:Int) - (p.l:Int) by omega]
     exact zS (yo (zl rfl) zU (SqT.of hpp) rfl) (yo (zl rfl) zU (SqT.of hpp) rfl)) ?_
   refine ⟨_,rfl,1,rfl,_,rfl,pa,ws,rfl,SqT.of hpa,?_,fun pc nc => ?_⟩
   · rw [HT.xl]
     show ¬ (0 = 0 /\ (if (-1:Int) < 0 then (-1 + (ws.length:Int)).toNat else min (-1:Int).toNat ws.length) = ws.length)
     rw [if_pos (by decide)]
     omega
   rw [jz (by omega)]
   have S1 := zf (o := .tup ws.dropLast) nc
   have hpc:(upd H pc (.tup ws.dropLast)) pc = some (.tup ws.dropLast) := zc
   generalize upd H pc (.tup ws.dropLast) = H1 at S1 hpc
   have ldl:ws.dropLast.length = wl.length := by rw [List.length_dropLast]; omega
   refine ⟨pc,rfl,⟨_,SqT.of hpc⟩,xR (K := K) (a := pc) (xs := ws.dropLast) (fun i ys σ H2 => ys = (wl.take i).map nV /\ Same H1 H2 /\ ∃ o,σ = [o,some (.int ((p.r - p.l:Nat):Int)),some (.ref b)]) ⟨rfl,Same.refl _,none,rfl⟩
     (fun i ys σ H2 hi ⟨e,S,_⟩ => ⟨by rw [e,List.length_map,List.length_take]; exact Nat.le_trans (show _ <= 1000 by omega) (by decide),SqT.of (S _ _ hpc)⟩) ?_ ?_⟩
   case refine_2 =>
     rintro i y ys σ H2 hy ⟨rfl,S2,o,rfl⟩
     have hi := (List.getElem?_eq_some_iff.mp hy).1
     have hy':ws[i]? = some y := by
       rw [List.getElem?_eq_getElem hi,List.getElem_dropLast] at hy
       rw [List.getElem?_eq_getElem (by omega)]
       exact hy
     obtain ⟨tp,ep,hAp⟩ := hQ.get hy'
     have pm:tp ∈ ps := List.mem_of_getElem? ep
     obtain ⟨np,enp,gp⟩ := hG.get ep
     have hiw:i < wl.length := by omega
     obtain ⟨P1,hP1,low1⟩ := hw i tp _ ep (List.getElem?_eq_getElem hiw)
     have ln := wJ (List.mem_of_getElem? enp)
     have S12 := S1.trans S2
     dsimp only [z6,tYes]
     refine iteT ?_
     refine ⟨_,rfl,_,rfl,y,tp,np,b,bvs,As,Ls,P1,H0,rfl,hAp.same S12,gp,hP1,S12 _ _ hb,hB.same S12,hO,h600,by omega,by have := hP.small tp pm; omega,by decide,hP.sm.trans S12,fun l us A1 H3 S3 nl hl hs oA lA => ?_⟩
     refine ⟨_,rfl,l,us,A1,p.r - p.l,rfl,hl,hs,by omega,fun o4 H4 S4 low4 => ?_⟩
     have e4:o4 = some wl[i] := Low.uniq (low4.of (P := reg A1) (Q := P1) fun w k => oA.2 w k) low1
     subst e4
     refine ⟨?_,S2.trans (S3.trans S4),_,rfl⟩
     rw [<- List.take_append_getElem hiw,List.map_append]
     rfl
   rintro ys σ H2 ⟨rfl,S2,_⟩ lw1 nlw
   rw [ldl,List.take_length]
   have S3 := S1.trans (S2.trans (zf (o := .lst (wl.map nV)) nlw))
   have hlw:(upd H2 lw1 (.lst (wl.map nV))) lw1 = some (.lst (wl.map nV)) := zc
   generalize upd H2 lw1 (.lst (wl.map nV)) = H3 at S3 hlw
   try dsimp only
   have hpp3 := S3 _ _ hpp
   refine ⟨_,rfl,pp,_,_,_,rfl,rfl,SqT.of hpp3,rfl,_,rfl,pp,_,_,_,rfl,rfl,SqT.of hpp3,rfl,_,rfl,p.t,p.b,lw1,wl,rfl,hlw,by omega,fun lp H4 S4 hlp => ?_⟩
   have S34 := S3.trans S4
   have hpp4 := S4 _ _ hpp3
   refine ⟨_,rfl,_,rfl,_,rfl,lp,_,rfl,SqL.of hlp,fun l2 nl2 => ?_⟩
   have pl := Sta.q8 p.t wl
   have ec:cutV ((plc p.t wl ++ [p.b]).map nV) (some 1) none = ((plc p.t wl ++ [p.b]).drop 1).map nV := by
     have := we ((plc p.t wl ++ [p.b]).map nV) 1 (by rw [List.length_map,List.length_append]; simp)
     rw [List.map_drop]
     exact this
   rw [ec]
   have S5 := zf (o := .lst (((plc p.t wl ++ [p.b]).drop 1).map nV)) nl2
   have hl2:(upd H4 l2 (.lst (((plc p.t wl ++ [p.b]).drop 1).map nV))) l2 = some (.lst (((plc p.t wl ++ [p.b]).drop 1).map nV)) := zc
   have hlp5 := S5 _ _ hlp
   have hpp5 := S5 _ _ hpp4
   generalize upd H4 l2 (.lst (((plc p.t wl ++ [p.b]).drop 1).map nV)) = H5 at S5 hl2 hlp5 hpp5
   have lmin:min ((plc p.t wl ++ [p.b]).map nV).length (((plc p.t wl ++ [p.b]).drop 1).map nV).length = wl.length + 1 := by
     rw [List.length_map,List.length_map,List.length_drop,List.length_append,pl]
     simp
   have lz:((plc p.t wl).zip ((plc p.t wl ++ [p.b]).drop 1)).length = wl.length + 1 := by
     rw [List.length_zip,List.length_drop,List.length_append,pl]
     simp
   refine ⟨lp,l2,rfl,⟨_,SqL.of hlp5⟩,⟨_,SqL.of hl2⟩,Zc (K := K) (a := lp) (b := l2) (xs := (plc p.t wl ++ [p.b]).map nV) (ys := ((plc p.t wl ++ [p.b]).drop 1).map nV) (fun i ys σ H6 => z5 H6 ys ((((plc p.t wl).zip ((plc p.t wl ++ [p.b]).drop 1)).take i).map fun q => ⟨p.l,q.1,p.r,q.2⟩) /\ Same H5 H6 /\ ∃ o o2,σ = [o,o2,some (.ref pp)]) ⟨.nil,Same.refl _,none,none,rfl⟩
     (fun i ys σ H6 hi ⟨e,S,_⟩ => ⟨by rw [e.len,List.length_map,List.length_take]; exact Nat.le_trans (show _ <= 1000 by omega) (by decide),SqL.of (S _ _ hlp5),SqL.of (S _ _ hl2)⟩) ?_ ?_⟩
   case refine_2 =>
     rintro i x y ys σ H6 tpa hx hy ⟨hY,S6,o,o2,rfl⟩ ntp
     rw [List.getElem?_map] at hx hy
     obtain ⟨x1,hx1,rfl⟩ := Option.map_eq_some_iff.mp hx
     obtain ⟨y1,hy1,rfl⟩ := Option.map_eq_some_iff.mp hy
     have hil:i < wl.length + 1 := by
       have := (List.getElem?_eq_some_iff.mp hy1).1
       rw [List.length_drop,List.length_append,pl] at this
       simp at this
       omega
     have hx2:(plc p.t wl)[i]? = some x1 := by
       rw [List.getElem?_append_left (by omega)] at hx1
       exact hx1
     have St := zf (o := .tup [nV x1,nV y1]) ntp
     have hpp6 := S6 _ _ hpp5
     refine ⟨tpa,_,rfl,SqT.of zc,rfl,_,_,rfl,_,_,rfl,rfl,?_⟩
     dsimp only [z6,tYes]
     refine iteT ?_
     generalize upd H6 tpa (.tup [nV x1,nV y1]) = H7 at St
     have hpp7 := St _ _ hpp6
     refine Yt (v1 := nV p.l) (v2 := nV x1) (v3 := nV p.r) (v4 := nV y1) (yo (zl rfl) zU (SqT.of hpp7) rfl) (zl rfl) (yo (zl rfl) zU (SqT.of hpp7) rfl) (zl rfl) (fun tq ntq => ?_)
     have Sq := zf (o := .tup [nV p.l,nV x1,nV p.r,nV y1]) ntq
     refine ⟨?_,S6.trans (St.trans Sq),_,_,rfl⟩
     have ez:((plc p.t wl).zip ((plc p.t wl ++ [p.b]).drop 1))[i]? = some (x1,y1) := List.getElem?_zip_eq_some.mpr ⟨hx2,hy1⟩
     obtain ⟨hzl,evz⟩ := List.getElem?_eq_some_iff.mp ez
     rw [<- List.take_append_getElem hzl,evz,List.map_append]
     exact (hY.same (St.trans Sq)).snoc ⟨tq,rfl,zc⟩
   rintro ys σ H6 ⟨hY,S6,_⟩ lr nlr
   rw [lmin,<- lz,List.take_length,<- epc] at hY
   exact q lr ys _ (S34.trans (S5.trans (S6.trans (zf nlr)))) zc (hY.same (zf nlr))
def spPo:Sp := fun vs H Q _ => ∃ (x:V) (k:Str) (b pp:Addr) (ps:List T) (nss:List (List Int)) (bvs:List V) (As:List Stc) (Ls:List R) (p:Pc) (pcs:List Pc) (H0:Hp),vs = [x,.ref b,.ref pp] /\ At H x (.tup [.str k,.tup ps]) /\ zG ps nss /\ nss.flatten.length <= 24 /\ 2 <= ps.length /\ sz (.tup [.str k,.tup ps]) <= 96 /\ H b = some (.lst bvs) /\ yg H0 H bvs As /\ OkSs As Ls /\ (∀ A ∈ As,A.length <= 600) /\ Same H0 H /\ H pp = some (.tup (pq p)) /\ p.l <= p.r /\ p.t <= p.b /\
 ((k = bar /\ PcsA Ls p.t p.b p.r ps p.l pcs) \/ (k = dash /\ PcsD Ls p.l p.r p.b ps p.t pcs)) /\ ∀ (l:Addr) (us:List V) (H':Hp),Same H H' -> H' l = some (.lst us) -> z5 H' us pcs -> Q (.ref l) H'
theorem scPo:zu ["tree","stairs","piece"] ["tree","stairs","piece"] (ze sPo) := ⟨rfl,rfl,rfl,by decide +kernel,rfl,by decide +kernel,by decide +kernel⟩
theorem zce {f fA fD:Addr} {fd dA dD:FuncData} (F:Fun K "pieces_of" "pieces_of" sPo f fd) (gKIND:GI mg "KIND" 0) (gPARTS:GI mg "PARTS" 1) (Z:Ns K mg) (Pa:Callee P w K mg base CX0 28 "pieces_across" fA dA ["parts","stairs","piece"] spPa)
   (Pd:Callee P w K mg base CX0 28 "pieces_down" fD dD ["parts","stairs","piece"] spPd):FnOk P w K mg base CX0 29 f fd ["tree","stairs","piece"] spPo := by
 obtain ⟨gWIDE,gHIGH,gMOST_WORDS,gACROSS,tl,ti,tlist,tall,tmax,trev,_,_,_,_,_,_⟩ := Z
 refine F.ok scPo (fun vs H Q E h => ?_) (fun cdv A outer s H vs Q E hr h => ?_)
 · obtain ⟨x,k,b,pp,ps,nss,bvs,As,Ls,p,pcs,H0,rfl,_⟩ := h
   rfl
 · obtain ⟨x,k,b,pp,ps,nss,bvs,As,Ls,p,pcs,H0,rfl,hA,hG,n24,two,hz,hb,hB,hO,h600,S0,hpp,le1,le2,hk,q⟩ := h
   refine ⟨_,(zd (zO (zC xu (zk zN (pv 0) (zJ rfl gKIND) (fun _ _ => rfl)) (JG rfl gACROSS) (zE _))
     (zg (zn (zj Pa.ok hr rfl Pa.bound Pa.kp Pa.bd .nil zB (za (zk zN (pv 0) (zJ rfl gPARTS) (fun _ _ => rfl)) (za (pv 1) (za (pv 2) zb))))))
     zH)
     (zg (zn (zj Pd.ok hr rfl Pd.bound Pd.kp Pd.bd .nil zB (za (zk zN (pv 0) (zJ rfl gPARTS) (fun _ _ => rfl)) (za (pv 1) (za (pv 2) zb))))))),?_⟩
   cases hA with
   | @tup a0 vs0 ss e hL =>
   obtain ⟨b0,ws,rfl,e2,hQ⟩ := hL.knot
   have hPts:Pts H H0 b0 b ps Ls := ⟨⟨ws,e2,hQ⟩,⟨bvs,As,hb,hB,hO,h600⟩,two,⟨nss,hG,n24⟩,fun p hp => by
     have := xq k ps
     have := qD two hp
     omega,S0⟩
   refine ⟨_,rfl,a0,_,_,_,rfl,rfl,SqT.of e,rfl,rfl,_,rfl,?_⟩
   have ek:decide (V.str k = V.str "|") = decide (k = bar) := by
     rw [decide_eq_decide]
     exact ⟨fun z => by injection z,fun z => by rw [z]; rfl⟩
   rw [ek]
   rcases hk with ⟨rfl,hA⟩ | ⟨rfl,hD⟩
   · rw [decide_eq_true rfl]
     refine iteT ?_
     refine ⟨_,rfl,a0,_,_,_,rfl,rfl,SqT.of e,rfl,_,rfl,_,rfl,b0,b,pp,ps,Ls,p,pcs,H0,rfl,hPts,hpp,le2,hA,q⟩
   · rw [decide_eq_false w9]
     refine iteF ?_
     refine zY ?_
     dsimp only
     refine ⟨_,rfl,a0,_,_,_,rfl,rfl,SqT.of e,rfl,_,rfl,_,rfl,b0,b,pp,ps,Ls,p,pcs,H0,rfl,hPts,hpp,le1,hD,q⟩
end
end JI
namespace Sta
open Tre Lin
theorem SetL.get {Ls:List R}:∀ {ts:List T} {pcs:List Pc} {res:List (List (Int × Pc))} {i:Nat} {t:T},SetL Ls ts pcs res -> ts[i]? = some t -> ∃ p a,pcs[i]? = some p /\ res[i]? = some a /\ zR Ls t p a
 | _,_,_,_,_,.nil,e => by simp at e
 | _,_,_,0,_,.cons h _,e => by simp at e; subst e; exact ⟨_,_,rfl,rfl,h⟩
 | _,_,_,i + 1,t,.cons _ r,e => by
   obtain ⟨p,a,h1,h2,h3⟩ := SetL.get (i := i) (t := t) r (by simpa using e)
   exact ⟨p,a,by simpa using h1,by simpa using h2,h3⟩
theorem SetL.len {Ls:List R}:∀ {ts:List T} {pcs:List Pc} {res:List (List (Int × Pc))},SetL Ls ts pcs res -> res.length = ts.length /\ pcs.length = ts.length
 | _,_,_,.nil => ⟨rfl,rfl⟩
 | _,_,_,.cons _ r => by simp only [List.length_cons]; exact ⟨by rw [r.len.1],by rw [r.len.2]⟩
theorem Qm {α:Type} (L:List (List α)) (i:Nat):(L.take i).flatten.length <= L.flatten.length := by
 have := congrArg (fun z => (List.flatten z).length) (List.take_append_drop i L)
 simp only [List.flatten_append,List.length_append] at this
 omega
theorem SetL.sizes {Ls:List R} {ts:List T} {pcs:List Pc} {res:List (List (Int × Pc))} {nss:List (List Int)} (g:zG ts nss) (h:SetL Ls ts pcs res):res.flatten.length = nss.flatten.length := by
 rw [<- SetL.keys g h,<- List.map_flatten,List.length_map]
def PcOk (p:Pc):Prop := p.l <= p.r /\ p.t <= p.b
theorem JK {Ls:List R} (hL:∀ L ∈ Ls,Up L) {t:T} {P:R} {p:Pc} (h:HasR Ls t P) (m:Rm P p):PcOk p := by
 have := (HasR.up hL h).pos m
 exact ⟨by omega,by omega⟩
end Sta
namespace JI
open PySem L2 Lin Tre PySem.W
open Sta (R Ok sbs exch reg OkS OkSs stN HasR zK Low tr Pc PcsA PcsD zR SetL plc PcOk)
theorem z5.upd {H:Hp} {l:Addr} {xs:List V} {o':HO} (hl:H l = some (.lst xs)):∀ {vs:List V} {ps:List Pc},z5 H vs ps -> z5 (upd H l o') vs ps
 | _,_,.nil => .nil
 | _,_,.cons ⟨a,e,z⟩ t => .cons ⟨a,e,by rw [zp (y9 z hl (by intro y; cases y))]; exact z⟩ (z5.upd hl t)
def ja (d:Nat):Sp := fun vs H Q _ => ∃ (x:V) (t:T) (n:List Int) (b pp:Addr) (bvs:List V) (As:List Stc) (Ls:List R) (p:Pc) (res:List (Int × Pc)) (H0:Hp),vs = [x,.ref b,.ref pp] /\ At H x t /\ Good t n /\ n.length <= 24 /\ sz t + 3 <= 4 * d /\ d <= 24 /\ H b = some (.lst bvs) /\ yg H0 H bvs As /\ OkSs As Ls /\ (∀ A ∈ As,A.length <= 600) /\ (∀ L ∈ Ls,Sta.Up L) /\ Same H0 H /\ H pp = some (.tup (pq p)) /\ PcOk p /\
 zR Ls t p res /\ ∀ (l:Addr) (us:List V) (H':Hp),Same H H' -> H' l = some (.lst us) -> yk H' us res -> Q (.ref l) H'
section
variable {P:Program} {w:World} {K:PySem.W.Frag} {mg:Str -> Option Value} {base:Heap} {kA:Addr}
theorem wK:zu ["tree","stairs","piece","found","part","own"] ["tree","stairs","piece"] (ze xL) := ⟨rfl,rfl,rfl,by decide +kernel,rfl,by decide +kernel,by decide +kernel⟩
theorem zay {f:Addr} {fd:FuncData} (F:Fun K "set_in" "set_in" xL f fd):FnOk P w K mg base CX0 30 f fd ["tree","stairs","piece"] (ja 0) := by
 refine F.ok wK (fun vs H Q E h => ?_) (fun cdv A outer s H vs Q E hr h => ?_)
 · obtain ⟨x,t,n,b,pp,bvs,As,Ls,p,res,H0,rfl,_⟩ := h
   rfl
 · obtain ⟨x,t,n,b,pp,bvs,As,Ls,p,res,H0,rfl,_,_,_,hz,_⟩ := h
   omega
theorem zaz {f fW fP:Addr} {fd dW dP:FuncData} {d:Nat} (F:Fun K "set_in" "set_in" xL f fd) (gPARTS:GI mg "PARTS" 1) (tzip:mg "zip" = none) (Wo:Callee P w K mg base CX0 1 "is_whole" fW dW ["thing"] xE)
   (Po:Callee P w K mg base CX0 29 "pieces_of" fP dP ["tree","stairs","piece"] spPo) (Se:Callee P w K mg base CX0 (d + 30) "set_in" f fd ["tree","stairs","piece"] (ja d)):FnOk P w K mg base CX0 (d + 31) f fd ["tree","stairs","piece"] (ja (d + 1)) := by
 refine F.ok wK (fun vs H Q E h => ?_) (fun cdv A outer s H vs Q E hr h => ?_)
 · obtain ⟨x,t,n,b,pp,bvs,As,Ls,p,res,H0,rfl,_⟩ := h
   rfl
 · obtain ⟨x,t,n,b,pp,bvs,As,Ls,p,res,H0,rfl,hA,g,n24,hz,hd,hb,hB,hO,h600,hU,S0,hpp,pok,hSI,q⟩ := h
   refine ⟨_,(zd (zO (yl (zj Wo.ok (hr.mono (by omega)) rfl Wo.bound Wo.kp Wo.bd .nil zB (za (pv 0) zb)))
     (zg (zn (zV (za (yK (za (pv 0) (za (pv 2) zb))) zb))))
     zH)
     (zd (zx (i := 3) wK.nd rfl (Or.inl rfl) (zV zb))
     (zd (yq PassesOwn.never rfl (zax rfl tzip (za (zk zN (pv 0) (zJ rfl gPARTS) (fun _ _ => rfl)) (za (zj Po.ok (hr.mono (by omega)) rfl Po.bound Po.kp Po.bd .nil zB (za (pv 0) (za (pv 1) (za (pv 2) zb)))) zb))) (qg rfl (zP (zr (i := 4) wK.nd rfl (Or.inl rfl)) (zP (zr (i := 5) wK.nd rfl (Or.inl rfl)) yU)))
     (zg (z8 (yz PySem.F.plainAttrs_list PySem.F.slot_list_extend PySem.F.type_list_extend WG (pv 3) (za (zj Se.ok hr rfl Se.bound Se.kp Se.bd .nil zB (za (pv 4) (za (pv 1) (za (pv 5) zb)))) zb)))))
     (zg (zn (pv 3)))))),?_⟩
   refine ⟨_,rfl,x,t,rfl,hA,_,rfl,?_⟩
   cases g with
   | leaf i =>
     cases hA
     cases hSI
     refine iteT ?_
     refine ⟨_,rfl,_,rfl,by show 2 <= sizeLine; decide,fun pt npt => ?_⟩
     have St := zf (o := .tup [.int i,.ref pp]) npt
     have hpt:(upd H pt (.tup [.int i,.ref pp])) pt = some (.tup [.int i,.ref pp]) := zc
     generalize upd H pt (.tup [.int i,.ref pp]) = H1 at St hpt
     refine ⟨by show 1 <= sizeLine; decide,fun l nl => ?_⟩
     have Sl := zf (o := .lst [.ref pt]) nl
     exact q l _ _ (St.trans Sl) zc (.cons ⟨pt,.ref pp,rfl,Sl _ _ hpt,pp,rfl,(St.trans Sl) _ _ hpp⟩ .nil)
   | @node k ps nss hk h2 hn hG =>
     obtain ⟨pcs,ress,hcut,hSL,rfl⟩ : ∃ pcs ress,((k = bar /\ PcsA Ls p.t p.b p.r ps p.l pcs) \/ (k = dash /\ PcsD Ls p.l p.r p.b ps p.t pcs)) /\ SetL Ls ps pcs ress /\ res = ress.flatten := by
       cases hSI with
       | bar h r => exact ⟨_,_,.inl ⟨rfl,h⟩,r,rfl⟩
       | dash h r => exact ⟨_,_,.inr ⟨rfl,h⟩,r,rfl⟩
     have hpc:∀ (i:Nat) (t:T) (q:Pc),ps[i]? = some t -> pcs[i]? = some q -> PcOk q := fun i t q e1 e2 => by
       rcases hcut with ⟨_,h⟩ | ⟨_,h⟩
       · obtain ⟨_,_,P1,h1,h2⟩ := h.rm e1 e2
         exact Sta.JK hU h1 h2
       · obtain ⟨_,_,P1,h1,h2⟩ := h.rm e1 e2
         exact Sta.JK hU h1 h2
     have hA0 := hA
     cases hA with
     | @tup a0 vs0 ss e hL =>
     obtain ⟨b0,ws,rfl,e2,hQ⟩ := hL.knot
     have lq := hQ.len
     have nsz := xq k ps
     have lps := xV ps
     have hlen := hSL.len
     have hsize := hSL.sizes hG
     refine iteF ?_
     refine zY ?_
     dsimp only
     refine ⟨by decide,fun l nl => ?_⟩
     have S1 := zf (o := .lst []) nl
     have hl1:(upd H l (.lst [])) l = some (.lst []) := zc
     change tSeq _ _ _ _ (upd H l (.lst []))
     generalize upd H l (.lst []) = H1 at S1 hl1
     refine run_seq ?_
     refine ⟨_,rfl,a0,_,_,_,rfl,rfl,SqT.of (S1 _ _ e),rfl,_,rfl,_,rfl,_,rfl,.ref a0,k,b,pp,ps,nss,bvs,As,Ls,p,pcs,H0,rfl,hA0.same S1,hG,n24,h2,by omega,S1 _ _ hb,hB.same S1,hO,h600,S0.trans S1,S1 _ _ hpp,pok.1,pok.2,hcut,fun lpc us H2 S2 hlpc hPc => ?_⟩
     have S12 := S1.trans S2
     have lus:us.length = ps.length := by rw [hPc.len,hlen.2]
     have hll:lpc ≠ l := fun z => by
       rw [z,S2 _ _ hl1] at hlpc
       injection hlpc with z2
       injection z2 with z3
       rw [<- z3] at lus
       simp at lus
       omega
     refine ⟨b0,lpc,rfl,⟨_,SqT.of (S12 _ _ e2)⟩,⟨_,SqL.of hlpc⟩,?_⟩
     refine Jg (K := K) (a := b0) (b := lpc) (xs := ws) (ys := us) (fun i σ H3 => ∃ (o1 o2:Option V) (vs:List V),σ = [some (.ref a0),some (.ref b),some (.ref pp),some (.ref l),o1,o2] /\ Same H H3 /\ H3 l = some (.lst vs) /\ yk H3 vs (ress.take i).flatten /\ H3 lpc = some (.lst us) /\ z5 H3 us pcs) (by omega) ⟨none,none,[],rfl,S12,S2 _ _ hl1,.nil,hlpc,hPc⟩
       (fun i σ H3 hi ⟨_,_,_,_,S3,_,_,z,_⟩ => ⟨SqT.of (S3 _ _ e2),SqL.of z⟩) ?_ ?_
     · rintro i x1 y1 σ H3 tp hx hy ⟨o1,o2,vs,rfl,S3,hl3,hN,hlp3,hPc3⟩ ntp
       obtain ⟨t1,et,hAt⟩ := hQ.get hx
       obtain ⟨p1,r1,ep,er,hS1⟩ := hSL.get et
       obtain ⟨p1',ep',pa1,rfl,hpa1⟩ := hPc3.get hy
       have e1:p1' = p1 := by rw [ep] at ep'; injection ep' with z; exact z.symm
       subst e1
       obtain ⟨n1,en,gn⟩ := hG.get et
       have pm:t1 ∈ ps := List.mem_of_getElem? et
       have two := qD h2 pm
       have ln := wJ (List.mem_of_getElem? en)
       have St := zf (o := .tup [x1,.ref pa1]) ntp
       refine ⟨tp,_,rfl,SqT.of zc,rfl,_,_,rfl,_,_,rfl,rfl,?_⟩
       generalize upd H3 tp (.tup [x1,.ref pa1]) = H4 at St
       have S4 := S3.trans St
       refine ⟨_,rfl,.inl ⟨rfl,_,SqL.of (St _ _ hl3)⟩,_,rfl,_,rfl,_,rfl,x1,t1,n1,b,pa1,bvs,As,Ls,p1',r1,H0,rfl,hAt.same S4,gn,by omega,by omega,by omega,S4 _ _ hb,hB.same S4,hO,h600,hU,S0.trans S4,St _ _ hpa1,hpc i t1 p1' et ep,hS1,fun l5 us5 H5 S5 hl5 hN5 => ?_⟩
       have hl5' := S5 _ _ (St _ _ hl3)
       have lr:us5.length = n1.length := by rw [hN5.len,<- zR.keys gn hS1,List.length_map]
       have lv:vs.length <= 24 := by
         rw [hN.len]
         have := Sta.Qm ress i
         omega
       refine ⟨l,l5,vs,us5,rfl,rfl,hl5',hl5,Nat.le_trans (show _ <= 48 by omega) (by decide),?_⟩
       obtain ⟨hir,evr⟩ := List.getElem?_eq_some_iff.mp er
       refine ⟨_,_,_,rfl,zW (S4.trans S5) nl,zc,?_,?_,?_⟩
       · rw [<- List.take_append_getElem hir,evr,List.flatten_append,List.flatten_singleton]
         exact (((hN.same St).same S5).upd hl5').app (hN5.upd hl5')
       · rw [zp hll]
         exact S5 _ _ (St _ _ hlp3)
       · exact ((hPc3.same St).same S5).upd hl5'
     · rintro σ H3 ⟨o1,o2,vs,rfl,S3,hl3,hN,_,_⟩
       rw [lq,<- hlen.1,List.take_length] at hN
       exact ⟨_,rfl,q l vs H3 S3 hl3 hN⟩
theorem Qn {f fW fP:Addr} {fd dW dP:FuncData} (F:Fun K "set_in" "set_in" xL f fd) (gPARTS:GI mg "PARTS" 1) (tzip:mg "zip" = none) (Wo:Callee P w K mg base CX0 1 "is_whole" fW dW ["thing"] xE)
   (Po:Callee P w K mg base CX0 29 "pieces_of" fP dP ["tree","stairs","piece"] spPo) (bo:mg "set_in" = some (.ref f)) (kp:PySem.W.keepIn K (.ref f) = true) (bd:Binds K fd ["tree","stairs","piece"] []):∀ d,FnOk P w K mg base CX0 (d + 30) f fd ["tree","stairs","piece"] (ja d)
 | 0 => zay F
 | d + 1 => zaz F gPARTS tzip Wo Po ⟨Qn F gPARTS tzip Wo Po bo kp bd d,bo,kp,bd⟩
end
end JI
namespace JI
open PySem L2 Lin Tre PySem.W
open Sta (R Ok sbs exch reg OkS OkSs stN HasR zK Low tr Pc PcsA PcsD zR SetL plc PcOk)
theorem Ji {m n:Nat} {p:Array Nat} {ks:List Int} (o:Srt.Ord m p) (hl:ks.length = m) (pm:ks.Perm (up n)) (u:Srt.Up (fun i => ks.getD i 0) p m):p.toList.map (fun i => ks.getD i 0) = up n := by
 have lz:p.size = m := o.sz
 have p1:(p.toList.map (fun i => ks.getD i 0)).Perm ks := by
   have q1:p.toList.Perm (List.range m) := by
     have := o.pm
     rw [Array.perm_iff_toList_perm] at this
     exact this
   have q2 := q1.map (fun i => ks.getD i 0)
   have e:(List.range m).map (fun i => ks.getD i 0) = ks := by
     apply List.ext_getElem
     · rw [List.length_map,List.length_range,hl]
     · intro i h1 h2
       rw [List.getElem_map,List.getElem_range,L2.getD_at h2]
   rw [e] at q2
   exact q2
 have s1:(p.toList.map (fun i => ks.getD i 0)).Pairwise (· <= ·) := by
   rw [List.pairwise_iff_getElem]
   intro i j hi hj hij
   rw [List.length_map,Array.length_toList,lz] at hi hj
   have key:∀ k,k < m -> ∀ h,(p.toList.map (fun i => ks.getD i 0))[k]'h = Srt.kv (fun i => ks.getD i 0) p k := by
     intro k hk h
     have e:p.toList[k]'(by rw [Array.length_toList,lz]; exact hk) = p.getD k 0 := by simp [Array.getD,lz,hk]
     rw [List.getElem_map,e]
     rfl
   rw [key i hi,key j hj]
   exact u.le (by omega) hj
 exact List.Perm.eq_of_pairwise (fun _ _ _ _ a b => Int.le_antisymm a b) s1 (ZR n) (p1.trans pm)
def pc0:Pc := ⟨0,0,0,0⟩
theorem yk.get {H:Hp}:∀ {vs:List V} {ps:List (Int × Pc)} {i:Nat} {v:V},yk H vs ps -> vs[i]? = some v -> ∃ p,ps[i]? = some p /\ NpAt H v p
 | _,_,_,_,.nil,e => by simp at e
 | _,_,0,_,.cons r _,e => by simp at e; subst e; exact ⟨_,rfl,r⟩
 | _,_,i + 1,v,.cons _ t,e => by
   obtain ⟨p,h1,h2⟩ := yk.get (i := i) (v := v) t (by simpa using e)
   exact ⟨p,by simpa using h1,h2⟩
theorem Xe {H:Hp} {vs:List V} {res:List (Int × Pc)} (h:yk H vs res):∀ (l:List Nat),(∀ i ∈ l,i < res.length) -> yk H (l.map fun i => vs.getD i .non) (l.map fun i => res.getD i (0,pc0))
 | [],_ => .nil
 | i :: ls,hl => by
   have hi := hl i List.mem_cons_self
   have hv:i < vs.length := by rw [h.len]; exact hi
   obtain ⟨q,e,r⟩ := h.get (List.getElem?_eq_getElem hv)
   refine .cons ?_ (Xe h ls fun j hj => hl j (List.mem_cons_of_mem _ hj))
   have e1:res.getD i (0,pc0) = q := by rw [List.getD_eq_getElem?_getD,e]; rfl
   show NpAt H (vs.getD i .non) (res.getD i (0,pc0))
   rw [e1,L2.getD_at hv]
   exact r
theorem Xf {H:Hp}:∀ {vs:List V} {res:List (Int × Pc)},yk H vs res -> ∃ rest:List (List V),rest.length = vs.length /\ ∀ (i:Nat) (x:V) (n:Int) (r:List V),vs[i]? = some x -> (res.map (·.1))[i]? = some n -> rest[i]? = some r -> ∃ p,x = .ref p /\ H p = some (.tup (.int n :: r)) /\ r.length = 1
 | _,_,.nil => ⟨[],rfl,fun i x n r e => by simp at e⟩
 | _,_,.cons ⟨a,u,e,z,p⟩ t => by
   obtain ⟨rest,l,h⟩ := Xf t
   refine ⟨[u] :: rest,by simp only [List.length_cons,l],fun i x n r e1 e2 e3 => ?_⟩
   match i,e1,e2,e3 with
   | 0,e1,e2,e3 =>
     cases e1
     cases e2
     cases e3
     exact ⟨a,e,z,rfl⟩
   | i + 1,e1,e2,e3 => exact h i x n r (by simpa using e1) (by simpa using e2) (by simpa using e3)
def Yf (C4 C6 C7:Addr):Sp := fun vs H Q E => ∃ (x y:V) (t:T) (wide:Nat),vs = [x,y,.int wide] /\ At H x t /\ sz t <= 1000 /\
 ((∃ (n:List Int) (a:Addr) (xs:List V) (wss:List (List W)),z4 t /\ Good t n /\ y = .ref a /\ H a = some (.lst xs) /\ Txs H xs wss /\ xs.length = n.length /\ (∀ (P:R) (k:Nat) (H':Hp),HasR (Lvs wss) t P -> Same H H' -> Low P wide (some k) -> Q (.int k) H') /\ ∀ (P:R) (H':Hp),HasR (Lvs wss) t P -> Same H H' -> Low P wide none -> E (.ref C7) none H') \/ Refd C4 C6 H y t E)
def jY (C4 C6 C7:Addr):Sp := fun vs H Q E => ∃ (x y:V) (t:T) (wide high:Nat),vs = [x,y,.int wide,.int high] /\ At H x t /\ sz t <= 1000 /\
 ((∃ (n:List Int) (a:Addr) (xs:List V) (wss:List (List W)) (P:R),z4 t /\ Good t n /\ y = .ref a /\ H a = some (.lst xs) /\ Txs H xs wss /\ xs.length = n.length /\ HasR (Lvs wss) t P /\
    ((∃ res,P wide high /\ zR (Lvs wss) t ⟨0,0,wide,high⟩ res /\ ∀ (l:Addr) (us:List V) (pcs:List Pc) (H':Hp),Same H H' -> H l = none -> H' l = some (.lst us) -> z5 H' us pcs -> pcs.length = n.length -> (∀ (i:Nat) (p:Pc),pcs[i]? = some p -> ((i:Int),p) ∈ res) -> Q (.ref l) H') \/ (¬ P wide high /\ ∀ H',Same H H' -> E (.ref C7) none H'))) \/ Refd C4 C6 H y t E)
section
variable {P:Program} {w:World} {K:PySem.W.Frag} {mg:Str -> Option Value} {base:Heap} {kA:Addr}
theorem JL:zu ["tree","texts","wide","least"] ["tree","texts","wide"] (ze sHin) := ⟨rfl,rfl,rfl,by decide +kernel,rfl,by decide +kernel,by decide +kernel⟩
theorem zbA {f fL C4 C6 C7:Addr} {fd dL:FuncData} (F:Fun K "height_in" "height_in" sHin f fd) (ex:Exc K mg "NoRoom" C7) (Lh:Callee P w K mg base (CXE P w) 29 "least_high" fL dL ["tree","texts","wide"] (spLh C4 C6)):FnOk P w K mg base (CXE P w) 30 f fd ["tree","texts","wide"] (Yf C4 C6 C7) := by
 refine F.okE JL (fun vs H Q E h => ?_) (fun cdv A outer s H vs Q E hr hh h => ?_)
 · obtain ⟨x,y,t,wide,rfl,_⟩ := h
   rfl
 · obtain ⟨x,y,t,wide,rfl,hA,hz,h⟩ := h
   refine ⟨_,(zd (zx (i := 3) JL.nd rfl (Or.inl rfl) (zj Lh.ok hr rfl Lh.bound Lh.kp Lh.bd .nil y3 (za (pv 0) (za (pv 1) (za (pv 2) zb)))))
     (zd (zO (zC jF (pv 3) y0 rfl)
     (zg (xm ex hh rfl (za yd zb)))
     zH)
     (zg (zn (pv 3))))),?_⟩
   rcases h with ⟨n,a,xs,wss,iT,g,rfl,ha,hT,hl,q,qe⟩ | h
   · refine ⟨_,rfl,_,rfl,_,rfl,x,.ref a,t,wide,rfl,hA,hz,.inl ⟨n,a,xs,wss,iT,g,rfl,ha,hT,hl,fun P1 o H1 hR S1 low => ?_⟩⟩
     cases o with
     | none => exact ⟨_,rfl,rfl,_,rfl,iteT ⟨by show 1 <= sizeLine; decide,qe P1 _ hR S1 low⟩⟩
     | some k => exact ⟨_,rfl,rfl,_,rfl,iteF ⟨_,rfl,q P1 k H1 hR S1 low⟩⟩
   · exact ⟨_,rfl,_,rfl,_,rfl,x,y,t,wide,rfl,hA,hz,.inr h⟩
theorem ZZ:zu ["tree","texts","wide","high","found"] ["tree","texts","wide","high"] (ze xC) := ⟨rfl,rfl,rfl,by decide +kernel,rfl,by decide +kernel,by decide +kernel⟩
theorem zaA {f fH fS fB C4 C6 C7:Addr} {fd dH dS dB:FuncData} (F:Fun K "setting" "setting" xC f fd) (ex:Exc K mg "NoRoom" C7) (ts:mg "sorted" = none) (Hi:Callee P w K mg base (CXE P w) 30 "height_in" fH dH ["tree","texts","wide"] (Yf C4 C6 C7))
   (Se:Callee P w K mg base CX0 54 "set_in" fS dS ["tree","stairs","piece"] (ja 24)) (Bs:Callee P w K mg base CX0 6 "box_stairs" fB dB ["texts"] Z9):FnOk P w K mg base (CXE P w) 55 f fd ["tree","texts","wide","high"] (jY C4 C6 C7) := by
 refine F.okE ZZ (fun vs H Q E h => ?_) (fun cdv A outer s H vs Q E hr hh h => ?_)
 · obtain ⟨x,y,t,wide,high,rfl,_⟩ := h
   rfl
 · obtain ⟨x,y,t,wide,high,rfl,hA,hz,h⟩ := h
   refine ⟨_,(zd (zO (zC xv (pv 3) (zj Hi.ok (hr.mono (by decide)) rfl Hi.bound Hi.kp Hi.bd .nil y3 (za (pv 0) (za (pv 1) (za (pv 2) zb)))) (zE _))
     (zg (xm ex hh rfl (za yd zb)))
     zH)
     (zd (zx (i := 4) ZZ.nd rfl (Or.inl rfl) (zj Se.ok hr rfl Se.bound Se.kp Se.bd .nil zB (za (pv 0) (za (zj Bs.ok (hr.mono (by decide)) rfl Bs.bound Bs.kp Bs.bd .nil zB (za (pv 1) zb)) (za (yK (za zh (za zh (za (pv 2) (za (pv 3) zb))))) zb)))))
     (zg (zn (z9 (Nc := ["number","box"]) (ix := [none,none]) rfl rfl (by refine' yi ?zz; case zz => exact (QX rfl ts (pv 4))) (fun _ _ _ _ _ => (wv (K := K) (n := 2) rfl rfl (zP (zr (i := 0) (by show (["number","box"]:List Str).Nodup; decide +kernel) rfl (Or.inl rfl)) (zP (zr (i := 1) (by show (["number","box"]:List Str).Nodup; decide +kernel) rfl (Or.inl rfl)) yU)))) (fun _ _ _ _ _ => zX) (fun _ _ _ _ _ => (pv 1))))))),?_⟩
   rcases h with ⟨n,a,xs,wss,P1,iT,g,rfl,ha,hT,hl,hP,h⟩ | h
   · have up1 := Sta.HasR.up (y6 wss) hP
     refine ⟨_,rfl,_,rfl,_,rfl,_,rfl,x,.ref a,t,wide,rfl,hA,hz,.inl ⟨n,a,xs,wss,iT,g,rfl,ha,hT,hl,fun P2 k H1 hR S1 low => ?_,fun P2 H1 hR S1 low => ?_⟩⟩
     · have eP := Sta.y7 hR hP
       subst eP
       refine ⟨_,_,rfl,rfl,_,rfl,?_⟩
       rcases h with ⟨res,rm,hSI,q⟩ | ⟨nrm,qe⟩
       · have hk:¬ ((high:Int) < (k:Int)) := by
           have := low.2 high rm
           omega
         rw [decide_eq_false hk]
         refine iteF ?_
         refine zY ?_
         dsimp only
         have n24 := (iT.okN g).2
         have okw := hT.okw
         have ok40 := hT.ok40
         have hsz := g.szN
         have lw := hT.len
         refine ⟨_,rfl,_,rfl,a,xs,wss,rfl,S1 _ _ ha,hT.same S1,by omega,fun lb rs H2 S2 nlb hlb hBs => ?_⟩
         refine ⟨_,rfl,_,rfl,by show 4 <= sizeLine; decide,fun pp npp => ?_⟩
         have S3 := zf (o := .tup [.int 0,.int 0,.int wide,.int high]) npp
         have hpp:(upd H2 pp (.tup [.int 0,.int 0,.int wide,.int high])) pp = some (.tup (pq ⟨0,0,wide,high⟩)) := zc
         generalize upd H2 pp (.tup [.int 0,.int 0,.int wide,.int high]) = H3 at S3 hpp
         refine ⟨x,t,n,lb,pp,rs,wss.map stN,Lvs wss,⟨0,0,wide,high⟩,res,H1,rfl,hA.same (S1.trans (S2.trans S3)),g,n24,by omega,by decide,S3 _ _ hlb,hBs.same S3,ZX okw,fun A hA => ?_,y6 wss,S2.trans S3,hpp,⟨Nat.zero_le _,Nat.zero_le _⟩,hSI,fun lf us H4 S4 hlf hN => ?_⟩
         · obtain ⟨ws,hw,rfl⟩ := List.mem_map.mp hA
           exact XF (okw ws hw) (ok40 ws hw)
         have S14 := S1.trans (S2.trans (S3.trans S4))
         have hks := zR.keys g hSI
         obtain ⟨yy,gy,l24,py⟩ := iT
         have e := Good.uniq g gy
         subst e
         have lres:res.length = n.length := by rw [<- hks,List.length_map]
         have lus:us.length = n.length := by rw [hN.len,lres]
         have nd:n.Nodup := py.nodup_iff.mpr (YQ _)
         obtain ⟨rest,lrest,hrest⟩ := Xf hN
         rw [hks] at hrest
         refine ⟨_,rfl,lf,us,n,rest,rfl,SqL.of hlf,by omega,by omega,lrest,nd,hrest,fun D p nD o u => ?_⟩
         rw [lus] at o u
         have eup := Ji o rfl py u
         have hps:yk H4 (p.toList.map fun i => us.getD i .non) (p.toList.map fun i => res.getD i (0,pc0)) := Xe hN p.toList fun i hi => by
           have m:i ∈ p := by simpa using hi
           have m2:i ∈ (List.toArray (List.range n.length)) := (Array.Perm.mem_iff o.pm).mp m
           rw [lres]
           simpa using m2
         have efst:(p.toList.map fun i => res.getD i (0,pc0)).map (·.1) = up n.length := by
           rw [<- eup,List.map_map]
           apply List.map_congr_left
           intro i _
           show (res.getD i (0,pc0)).1 = n.getD i 0
           rw [<- hks,List.getD_eq_getElem?_getD,List.getD_eq_getElem?_getD,List.getElem?_map]
           cases res[i]? <;> rfl
         have hmem:∀ q ∈ (p.toList.map fun i => res.getD i (0,pc0)),q ∈ res := fun q hq => by
           obtain ⟨i,hi,rfl⟩ := List.mem_map.mp hq
           have m:i ∈ p := by simpa using hi
           have m2:i ∈ (List.toArray (List.range n.length)) := (Array.Perm.mem_iff o.pm).mp m
           have hil:i < res.length := by rw [lres]; simpa using m2
           rw [L2.getD_at hil]
           exact List.getElem_mem hil
         generalize (p.toList.map fun i => us.getD i .non) = ss at hps
         generalize (p.toList.map fun i => res.getD i (0,pc0)) = pk at hps efst hmem
         have S5 := zf (o := .lst ss) nD
         have hD:(upd H4 D (.lst ss)) D = some (.lst ss) := zc
         have hps5 := hps.same S5
         generalize upd H4 D (.lst ss) = H5 at S5 hD hps5
         have lpk:pk.length = n.length := by
           have := congrArg List.length efst
           rwa [List.length_map,wI] at this
         have lss := hps.len
         refine ⟨D,rfl,⟨_,SqL.of hD⟩,yv (K := K) (a := D) (xs := ss) (fun i ys σ H' => z5 H' ys ((pk.take i).map (·.2)) /\ Same H5 H' /\ ∃ o o2,σ = [o,o2]) ⟨.nil,Same.refl _,none,none,rfl⟩
           (fun i ys σ H' hi ⟨h1,S3,_⟩ => ⟨by rw [h1.len,List.length_map,List.length_take]; exact Nat.le_trans (show _ <= 1000000 by omega) (by decide),SqL.of (S3 _ _ hD)⟩) ?_ ?_⟩
         case refine_2 =>
           rintro i y ys σ H6 hy ⟨hY,S6,o1,o2,rfl⟩
           obtain ⟨q1,eq1,⟨aq,uq,rfl,zq,hq⟩⟩ := hps5.get hy
           obtain ⟨hil,ev⟩ := List.getElem?_eq_some_iff.mp eq1
           refine ⟨aq,_,rfl,SqT.of (S6 _ _ zq),rfl,_,_,rfl,_,_,rfl,rfl,?_⟩
           dsimp only [z6,tYes]
           refine iteT ⟨_,rfl,?_,S6,_,_,rfl⟩
           rw [<- List.take_append_getElem hil,ev,List.map_append]
           exact hY.snoc (hq.same S6)
         rintro ys σ H6 ⟨hY,S6,_⟩ lr nlr
         rw [lss,List.take_length] at hY
         have S7 := zf (o := .lst ys) nlr
         refine q lr ys _ _ (S14.trans (S5.trans (S6.trans S7))) ((S14.trans (S5.trans S6)).free nlr) zc (hY.same S7) (by rw [List.length_map,lpk]) fun i p1 e1 => ?_
         rw [List.getElem?_map] at e1
         obtain ⟨q1,eq1,rfl⟩ := Option.map_eq_some_iff.mp e1
         have e2:(pk.map (·.1))[i]? = some q1.1 := by rw [List.getElem?_map,eq1]; rfl
         rw [efst] at e2
         have e3:q1.1 = (i:Int) := by
           unfold up at e2
           rw [List.getElem?_map] at e2
           obtain ⟨j,ej,e4⟩ := Option.map_eq_some_iff.mp e2
           have := (List.getElem?_eq_some_iff.mp ej).2
           rw [List.getElem_range] at this
           rw [<- e4,this]
         rw [<- e3]
         exact hmem q1 (List.mem_of_getElem? eq1)
       · have hk:((high:Int) < (k:Int)) := by
           have:¬ k <= high := fun z => nrm (up1.up low.1 (Nat.le_refl _) z)
           omega
         rw [decide_eq_true hk]
         exact iteT ⟨by show 1 <= sizeLine; decide,qe _ S1⟩
     · have eP := Sta.y7 hR hP
       subst eP
       rcases h with ⟨res,rm,_,_⟩ | ⟨_,qe⟩
       · exact (low high rm).elim
       · exact qe H1 S1
   · exact ⟨_,rfl,_,rfl,_,rfl,_,rfl,x,y,t,wide,rfl,hA,hz,.inr h⟩
end
end JI
namespace JI
open PySem L2 Lin Tre PySem.W
open Sta (R Ok sbs exch reg OkS OkSs stN HasR zK Low tr)
section
variable {P:Program} {w:World} {K:PySem.W.Frag} {mg:Str -> Option Value} {base:Heap} {kA:Addr}
theorem zaB:zu ["tree","texts","high"] ["tree","texts","high"] (ze wF) := ⟨rfl,rfl,rfl,by decide +kernel,rfl,by decide +kernel,by decide +kernel⟩
theorem Jj {f fT fL C4 C6:Addr} {fd dT dL:FuncData} (F:Fun K "least_wide" "least_wide" wF f fd) (Ts:Callee P w K mg base (CXE P w) 28 "tree_stairs" fT dT ["tree","texts"] (Yc C4 C6)) (Na:Callee P w K mg base CX0 1 "narrowest" fL dL ["stairs","high"] jV) :
   FnOk P w K mg base (CXE P w) 29 f fd ["tree","texts","high"] (Zj C4 C6) := by
 refine F.okE zaB (fun vs H Q E h => ?_) (fun cdv A outer s H vs Q E hr hh h => ?_)
 · obtain ⟨x,y,t,wide,rfl,_⟩ := h
   rfl
 · obtain ⟨x,y,t,wide,rfl,hA,hz,h⟩ := h
   refine ⟨_,(zg (zn (zj Na.ok (hr.mono (by decide)) rfl Na.bound Na.kp Na.bd .nil zB (za (zj Ts.ok hr rfl Ts.bound Ts.kp Ts.bd .nil y3 (za (pv 0) (za (pv 1) zb))) (za (pv 2) zb))))),?_⟩
   rcases h with ⟨n,a,xs,wss,iT,g,rfl,ha,hT,hl,q⟩ | h
   · refine ⟨_,rfl,_,rfl,x,.ref a,t,rfl,hA,hz,.inl ⟨n,a,xs,wss,iT,g,rfl,ha,hT,hl,fun P1 l us A1 H1 hR S1 nl hl1 hs oA lA => ?_⟩⟩
     refine ⟨_,rfl,l,us,A1,wide,rfl,hl1,hs,by omega,fun o H2 S2 low => ?_⟩
     exact q P1 o H2 hR (S1.trans S2) (low.of (P := tr (reg A1)) (Q := tr P1) fun w k => oA.2 k w)
   · exact ⟨_,rfl,_,rfl,x,y,t,rfl,hA,hz,.inr h⟩
end
end JI
namespace Shp
open PySem L2 Tre
mutual
inductive Sh:T -> Nat -> Prop where
 | leaf:Sh .non 1
 | node {k:Str} {ps:List T} {ms:List Nat} (hk:isK k) (h2:2 <= ps.length) (hn:∀ p ∈ ps,¬ HasK p k) (h:ShL ps ms):Sh (.tup [.str k,.tup ps]) ms.sum
inductive ShL:List T -> List Nat -> Prop where
 | nil:ShL [] []
 | cons {t:T} {m:Nat} {ts:List T} {ms:List Nat} (h:Sh t m) (r:ShL ts ms):ShL (t :: ts) (m :: ms)
end
theorem ShL.app:∀ {a b:List T} {x y:List Nat},ShL a x -> ShL b y -> ShL (a ++ b) (x ++ y)
 | _,_,_,_,.nil,s => s
 | _,_,_,_,.cons h r,s => .cons h (ShL.app r s)
theorem ShL.len:∀ {a:List T} {x:List Nat},ShL a x -> x.length = a.length
 | _,_,.nil => rfl
 | _,_,.cons _ r => by rw [List.length_cons,List.length_cons,r.len]
theorem ShL.get:∀ {a:List T} {x:List Nat} {i:Nat} {t:T},ShL a x -> a[i]? = some t -> ∃ m,x[i]? = some m /\ Sh t m
 | _,_,_,_,.nil,e => by simp at e
 | _,_,0,_,.cons h r,e => by simp at e; subst e; exact ⟨_,rfl,h⟩
 | _,_,i + 1,t,.cons _ r,e => by
   obtain ⟨m,h1,h2⟩ := ShL.get (i := i) (t := t) r (by simpa using e)
   exact ⟨m,by simpa using h1,h2⟩
theorem ShL.rep:∀ n:Nat,ShL (List.replicate n .non) (List.replicate n 1)
 | 0 => .nil
 | n + 1 => by
   rw [List.replicate_succ,List.replicate_succ]
   exact .cons .leaf (ShL.rep n)
mutual
theorem Sh.pos:∀ {t:T} {m:Nat},Sh t m -> 1 <= m
 | _,_,.leaf => Nat.le_refl _
 | _,_,.node (ps := ps) hk h2 hn h => by
   have := ShL.sum h
   omega
theorem ShL.sum:∀ {a:List T} {x:List Nat},ShL a x -> a.length <= x.sum
 | _,_,.nil => Nat.le_refl _
 | _,_,.cons h r => by
   have := h.pos
   have := ShL.sum r
   rw [List.length_cons,List.sum_cons]
   omega
end
mutual
theorem Sh.szN:∀ {t:T} {m:Nat},Sh t m -> sz t + 3 <= 4 * m
 | _,_,.leaf => by simp [sz]
 | _,_,.node (k := k) (ps := ps) hk h2 hn h => by
   have := ShL.szN h
   have := xq k ps
   have := ShL.sum h
   omega
theorem ShL.szN:∀ {a:List T} {x:List Nat},ShL a x -> szL a + 3 * a.length <= 4 * x.sum
 | _,_,.nil => by simp [szL]
 | _,_,.cons h r => by
   have := h.szN
   have := ShL.szN r
   rw [List.length_cons,List.sum_cons]
   simp only [szL]
   omega
end
structure E where
 k:Str
 ps:List T
 ms:List Nat
def oth (k:Str):Str := if k = bar then dash else bar
structure Ent (e:E):Prop where
 hk:isK e.k
 sh:ShL e.ps e.ms
 hn:∀ p ∈ e.ps,¬ HasK p e.k
theorem zaC (k:Str):isK (oth k) := by
 unfold oth
 split
 · exact .inr rfl
 · exact .inl rfl
theorem zbB {k:Str} (h:isK k):oth k ≠ k := by
 unfold oth
 rcases h with e | e
 · rw [e,if_pos rfl]; decide +kernel
 · rw [e,if_neg (by decide +kernel)]; decide +kernel
def Alt:Str -> List E -> Prop
 | _,[] => True
 | k,e :: r => e.k = k /\ Alt (oth k) r
def zA (e:E):Nat := 2 - e.ps.length
def wg (e:E):Nat := 1 - e.ps.length
def many (p:List E):Nat := (p.map fun e => e.ms.sum).sum
def z7 (p:List E):Nat := (p.map wg).sum
theorem xF (a b:List E):many (a ++ b) = many a + many b := by unfold many; rw [List.map_append,List.sum_append]
theorem y8 (e:E):many [e] = e.ms.sum := by unfold many; simp
theorem qE (a b:List E):z7 (a ++ b) = z7 a + z7 b := by unfold z7; rw [List.map_append,List.sum_append]
theorem qF (e:E):z7 [e] = wg e := by unfold z7; simp
theorem Alt.snoc:∀ {k:Str} {p:List E} {e:E},Alt k (p ++ [e]) -> ∀ f:E,f.k = e.k -> Alt k (p ++ [f])
 | _,[],e,h,f,z => ⟨z.trans h.1,trivial⟩
 | k,a :: r,e,h,f,z => ⟨h.1,Alt.snoc (p := r) h.2 f z⟩
theorem Alt.push:∀ {k:Str} {p:List E} {e:E},Alt k (p ++ [e]) -> Alt k (p ++ [e] ++ [⟨oth e.k,[],[]⟩])
 | k,[],e,h => ⟨h.1,by rw [h.1],trivial⟩
 | k,a :: r,e,h => ⟨h.1,Alt.push (p := r) h.2⟩
theorem Alt.pop:∀ {k:Str} {p:List E} {e:E},Alt k (p ++ [e]) -> Alt k p
 | _,[],_,_ => trivial
 | _,a :: r,e,h => ⟨h.1,Alt.pop (p := r) h.2⟩
theorem Alt.two:∀ {k:Str} {p:List E} {b e:E},Alt k (p ++ [b] ++ [e]) -> e.k = oth b.k
 | k,[],b,e,h => by rw [h.1]; exact h.2.1
 | k,a :: r,b,e,h => Alt.two (p := r) h.2
def full (e:E):T := .tup [.str e.k,.tup (e.ps ++ List.replicate (zA e) .non)]
def yI (e:E):Nat := e.ms.sum + zA e
theorem zaD (n:Nat):(List.replicate n 1).sum = n := by simp
theorem Xg {k:Str}:¬ HasK .non k := fun ⟨_,e⟩ => by cases e
theorem Ent.full {e:E} (h:Ent e):Sh (full e) (yI e) := by
 have := Sh.node (ps := e.ps ++ List.replicate (zA e) .non) (ms := e.ms ++ List.replicate (zA e) 1) h.hk (by rw [List.length_append,List.length_replicate]; unfold zA; omega) (fun p hp => by
   rcases List.mem_append.mp hp with z | z
   · exact h.hn p z
   · rw [(List.mem_replicate.mp z).2]; exact Xg) (h.sh.app (ShL.rep _))
 rw [List.sum_append,zaD] at this
 exact this
theorem Ent.add {e:E} (h:Ent e) {t:T} {m:Nat} (s:Sh t m) (n:¬ HasK t e.k):Ent ⟨e.k,e.ps ++ [t],e.ms ++ [m]⟩ := ⟨h.hk,h.sh.app (.cons s .nil),fun p hp => by
 rcases List.mem_append.mp hp with z | z
 · exact h.hn p z
 · rw [List.mem_singleton.mp z]; exact n⟩
structure Pok (kind:Str) (most:Nat) (p:List E) (top:E):Prop where
 alt:Alt kind (p ++ [top])
 ent:∀ e ∈ p ++ [top],Ent e
 sum:many (p ++ [top]) + (zA top + z7 p) <= most
theorem Pok.start {kind:Str} {most:Nat} (hk:isK kind) (h:2 <= most):Pok kind most [] ⟨kind,[],[]⟩ :=
 ⟨⟨rfl,trivial⟩,fun e he => by
   rw [List.nil_append] at he
   rw [List.mem_singleton.mp he]
   exact ⟨hk,.nil,fun p hp => absurd hp List.not_mem_nil⟩,by
   rw [List.nil_append,y8]
   show 0 + (2 + 0) <= most
   omega⟩
theorem Pok.push {kind:Str} {most:Nat} {p:List E} {top:E} (h:Pok kind most p top) (r:many (p ++ [top]) + (zA top + z7 p) + 2 <= most \/ (many (p ++ [top]) + (zA top + z7 p) + 1 <= most /\ top.ps.length < 2)):Pok kind most (p ++ [top]) ⟨oth top.k,[],[]⟩ := by
 refine ⟨h.alt.push,fun e he => ?_,?_⟩
 · rcases List.mem_append.mp he with z | z
   · exact h.ent e z
   · rw [List.mem_singleton.mp z]
     exact ⟨zaC _,.nil,fun p hp => absurd hp List.not_mem_nil⟩
 · rw [xF,y8,qE,qF]
   show many (p ++ [top]) + 0 + (2 + (z7 p + wg top)) <= most
   unfold zA at r
   unfold wg
   omega
theorem Pok.leaf {kind:Str} {most:Nat} {p:List E} {top:E} (h:Pok kind most p top) (r:many (p ++ [top]) + (zA top + z7 p) + 1 <= most \/ top.ps.length < 2):Pok kind most p ⟨top.k,top.ps ++ [.non],top.ms ++ [1]⟩ := by
 refine ⟨h.alt.snoc _ rfl,fun e he => ?_,?_⟩
 · rcases List.mem_append.mp he with z | z
   · exact h.ent e (List.mem_append_left _ z)
   · rw [List.mem_singleton.mp z]
     exact (h.ent top (List.mem_append_right _ List.mem_cons_self)).add .leaf Xg
 · have h0 := h.sum
   rw [xF,y8] at h0 r ⊢
   have e1:(top.ms ++ [1]).sum = top.ms.sum + 1 := by rw [List.sum_append]; rfl
   have e2:zA ⟨top.k,top.ps ++ [.non],top.ms ++ [1]⟩ = 2 - (top.ps.length + 1) := by unfold zA; rw [List.length_append]; rfl
   show many p + (top.ms ++ [1]).sum + (zA ⟨top.k,top.ps ++ [.non],top.ms ++ [1]⟩ + z7 p) <= most
   rw [e1,e2]
   unfold zA at h0 r
   omega
theorem Pok.close {kind:Str} {most:Nat} {p:List E} {b top:E} (h:Pok kind most (p ++ [b]) top):Pok kind most p ⟨b.k,b.ps ++ [full top],b.ms ++ [yI top]⟩ := by
 have hb := h.ent b (List.mem_append_left _ (List.mem_append_right _ List.mem_cons_self))
 have ht := h.ent top (List.mem_append_right _ List.mem_cons_self)
 have k2 := h.alt.two
 refine ⟨h.alt.pop.snoc _ rfl,fun e he => ?_,?_⟩
 · rcases List.mem_append.mp he with z | z
   · exact h.ent e (List.mem_append_left _ (List.mem_append_left _ z))
   · rw [List.mem_singleton.mp z]
     refine hb.add ht.full fun ⟨q,e⟩ => ?_
     unfold Shp.full at e
     injection e with e
     injection e with e _
     injection e with e
     exact zbB hb.hk (k2.symm.trans e)
 · have h0 := h.sum
   rw [xF,xF,y8,y8,qE,qF] at h0
   rw [xF,y8]
   have e1:(b.ms ++ [yI top]).sum = b.ms.sum + (top.ms.sum + zA top) := by rw [List.sum_append,List.sum_singleton]; rfl
   have e2:zA ⟨b.k,b.ps ++ [full top],b.ms ++ [yI top]⟩ = 2 - (b.ps.length + 1) := by unfold zA; rw [List.length_append]; rfl
   show many p + (b.ms ++ [yI top]).sum + (zA ⟨b.k,b.ps ++ [full top],b.ms ++ [yI top]⟩ + z7 p) <= most
   rw [e1,e2]
   unfold wg at h0
   omega
theorem Pok.done {kind:Str} {most:Nat} {top:E} (h:Pok kind most [] top):top.k = kind /\ Sh (full top) (yI top) /\ yI top <= most := by
 refine ⟨h.alt.1,(h.ent top (List.mem_append_right _ List.mem_cons_self)).full,?_⟩
 have h0 := h.sum
 rw [List.nil_append,y8] at h0
 have:z7 [] = 0 := rfl
 unfold yI
 omega
mutual
inductive Cn:T -> Nat -> Prop where
 | non:Cn .non 1
 | int (i:Int):Cn (.int i) 1
 | node {k:Str} {ps:List T} {ms:List Nat} (h2:2 <= ps.length) (h:CnL ps ms):Cn (.tup [.str k,.tup ps]) ms.sum
inductive CnL:List T -> List Nat -> Prop where
 | nil:CnL [] []
 | cons {t:T} {m:Nat} {ts:List T} {ms:List Nat} (h:Cn t m) (r:CnL ts ms):CnL (t :: ts) (m :: ms)
end
theorem CnL.len:∀ {a:List T} {x:List Nat},CnL a x -> x.length = a.length
 | _,_,.nil => rfl
 | _,_,.cons _ r => by rw [List.length_cons,List.length_cons,r.len]
theorem CnL.get:∀ {a:List T} {x:List Nat} {i:Nat} {t:T},CnL a x -> a[i]? = some t -> ∃ m,x[i]? = some m /\ Cn t m
 | _,_,_,_,.nil,e => by simp at e
 | _,_,0,_,.cons h r,e => by simp at e; subst e; exact ⟨_,rfl,h⟩
 | _,_,i + 1,t,.cons _ r,e => by
   obtain ⟨m,h1,h2⟩ := CnL.get (i := i) (t := t) r (by simpa using e)
   exact ⟨m,by simpa using h1,h2⟩
mutual
theorem Sh.cn:∀ {t:T} {m:Nat},Sh t m -> Cn t m
 | _,_,.leaf => .non
 | _,_,.node _ h2 _ h => .node h2 (ShL.cn h)
theorem ShL.cn:∀ {a:List T} {x:List Nat},ShL a x -> CnL a x
 | _,_,.nil => .nil
 | _,_,.cons h r => .cons h.cn (ShL.cn r)
end
mutual
theorem XI:∀ {t:T} {n:List Int},Good t n -> Cn t n.length
 | _,_,.leaf i => .int i
 | _,_,.node (ps := ps) (nss := nss) _ h2 _ h => by
   have := Xh h
   rw [List.length_flatten]
   exact .node h2 this
theorem Xh:∀ {ts:List T} {nss:List (List Int)},zG ts nss -> CnL ts (nss.map List.length)
 | _,_,.nil => .nil
 | _,_,.cons h r => .cons (XI h) (Xh r)
end
theorem Jk {ms:List Nat} {i m:Nat} (h:ms[i]? = some m):(ms.take (i + 1)).sum = (ms.take i).sum + m := by
 rw [List.take_add_one,h,List.sum_append]
 simp
theorem Xs (ms:List Nat) (i:Nat):(ms.take i).sum <= ms.sum := by
 have := congrArg List.sum (List.take_append_drop i ms)
 rw [List.sum_append] at this
 omega
end Shp
namespace L2
open PySem PySem.Spec PyProof.Rows
def gLst (K:PySem.W.Frag) (n:Nat) (t:TGs):TG := fun v σ H Q => ∃ a xs,v = .ref a /\ SqL K H a xs /\ xs.length = n /\ t xs σ H Q
theorem zbC {X:Cx} {es:List Expr} {k:Nat} {t:TGs} {n:Nat} {pos:Pos} (hc:X.calm = true) (h:PGs X es t)
   (hn:(assignEach es X.env).length = n := by rfl) (hst:(assignEach es X.env).findIdx? (·.1) = none := by rfl):PG X (.Tuple es k pos) (gLst X.K n t) := by
 intro pins s σ H v u Q I r hw
 obtain ⟨a,xs,e1,hq,hl,hw⟩ := hw
 subst e1
 cases r
 obtain ⟨its,rv,ht,hz⟩ := I.list hq
 rw [assign_Tuple]
 refine wpAny_bind (wpAny_standAt ?_)
 unfold unpack
 have e:(assignEach es X.env).length = its.toArray.size := by simp [hn,<- hl,rv.length]
 rw [e,hst]
 refine wpAny_bind (wpAny_holding (PySem.W.kun_itemsOf (I.ok.hd hc) ht.isList fun h' hx => ?_))
 have I1:Inv X pins σ H { s with heap := h' } := I.kept (t' := s.toks) fun b o e => hx b o (Nat.ne_of_lt (Heap.lt_size e)) e
 exact h pins _ σ H xs _ Q I1 (by simpa using rv) hw
end L2
namespace L2
open PySem PySem.Spec PyProof.Rows PySem.W
section
variable {X:Cx}
theorem Z1:yx X (.type "int") (fun xs H Q => ∃ b:Bool,xs = [.bl b] /\ Q (.int (if b then 1 else 0)) H) := by
 intro pins s σ H xs us Q I r h
 obtain ⟨b,rfl,q⟩ := h
 obtain ⟨u,rfl,rfl⟩ := vals1 r
 exact call_int_bool ⟨.int (if b then 1 else 0),H,I.tok _,⟨_,rfl⟩,q⟩
theorem zbD {K:PySem.W.Frag} {o e:Expr} {es:List Expr} {to:TE} {t:TA} {name:Str} {apos cpos:Pos} {T id:String} {r:V -> List V -> Hp -> VK -> Prop} (hK:X.K = K) (pa:PlainAttrs T) (slot:Slot T name id) (hty:typeOf (.builtin id) = pure (.type "method_descriptor")) (hm:MtR X id r) (ho:PE X o to) (ha:PA X (e :: es) t)
   (hbase:attributeBase o name X.env (eval o X.env) = eval o X.env := by rfl)
   (hfew:((backTo cpos (starEach (e :: es) X.env)).all (fun x => !x.1) && (backToKw cpos (keywordEach [] X.env)).all (fun x => x.1.isSome)
     && decide ((e :: es).length + ([]:List Keyword).length + (if ([]:List Keyword).isEmpty then 0 else 1) < 30)) = true := by rfl)
   (hline:(apos.endLine == cpos.line) = true := by rfl) (hs:starEach (e :: es) X.env = (false,eval e X.env) :: starEach es X.env := by rfl) (hplain:(backTo cpos (starEach es X.env)).any (·.1) = false := by rfl) :
   PE X (.Call (.Attribute o name apos) (e :: es) [] cpos) (tBM K T r to t) := by
 subst hK
 exact yz pa slot hty hm ho ha hbase hfew hline hs hplain
end
end L2
namespace JI
open PySem L2 Lin Tre PySem.W
open Shp (Sh ShL E Ent Pok zA wg z7 many full yI oth Alt)
abbrev jb:Stmt := top 67
abbrev wL:Stmt := top 68
mutual
theorem At.updL {H:Hp} {l:Addr} {xs ys:List V} (hl:H l = some (.lst xs)):∀ {v:V} {t:T},At H v t -> At (upd H l (.lst ys)) v t
 | _,_,.non => .non
 | _,_,.bl b => .bl b
 | _,_,.int i => .int i
 | _,_,.str x => .str x
 | _,_,.tup e h => .tup (by rw [zp (y9 e hl (by intro z; cases z))]; exact e) (AtL.updL hl h)
 | _,_,.lst (a := a) e => by
   by_cases z:a = l
   · rw [z]; exact .lst zc
   · exact .lst (by rw [zp z]; exact e)
 | _,_,.dic e => .dic (by rw [zp (y9 e hl (by intro z; cases z))]; exact e)
theorem AtL.updL {H:Hp} {l:Addr} {xs ys:List V} (hl:H l = some (.lst xs)):∀ {vs:List V} {ts:List T},AtL H vs ts -> AtL (upd H l (.lst ys)) vs ts
 | _,_,.nil => .nil
 | _,_,.cons h r => .cons (At.updL hl h) (AtL.updL hl r)
end
def EnA (H:Hp) (ab:Addr × Addr) (e:E):Prop := H ab.1 = some (.lst [.str e.k,.ref ab.2]) /\ ∃ us,H ab.2 = some (.lst us) /\ AtL H us e.ps
def EnAs (H:Hp):List (Addr × Addr) -> List E -> Prop := Paired (EnA H)
def ads (abs:List (Addr × Addr)):List Addr := abs.flatMap fun ab => [ab.1,ab.2]
def rf (ab:Addr × Addr):V := .ref ab.1
theorem xG (a b:List (Addr × Addr)):ads (a ++ b) = ads a ++ ads b := by unfold ads; rw [List.flatMap_append]
theorem jc (ab:Addr × Addr):ads [ab] = [ab.1,ab.2] := rfl
theorem XJ {abs:List (Addr × Addr)} {ab:Addr × Addr} (h:ab ∈ abs):ab.1 ∈ ads abs /\ ab.2 ∈ ads abs := ⟨List.mem_flatMap.mpr ⟨ab,h,List.mem_cons_self⟩,List.mem_flatMap.mpr ⟨ab,h,List.mem_cons_of_mem _ List.mem_cons_self⟩⟩
theorem EnA.same {H H':Hp} (S:Same H H') {ab:Addr × Addr} {e:E} (h:EnA H ab e):EnA H' ab e := let ⟨a,us,b,c⟩ := h; ⟨S _ _ a,us,S _ _ b,c.same S⟩
theorem EnAs.same {H H':Hp} (S:Same H H') {abs:List (Addr × Addr)} {p:List E} (h:EnAs H abs p):EnAs H' abs p := Paired.imp' (fun _ _ => EnA.same S) h
theorem EnAs.len {H:Hp} {abs:List (Addr × Addr)} {p:List E} (h:EnAs H abs p):abs.length = p.length := Paired.length h
theorem EnA.updL {H:Hp} {l:Addr} {xs ys:List V} (hl:H l = some (.lst xs)) {ab:Addr × Addr} {e:E} (n1:ab.1 ≠ l) (n2:ab.2 ≠ l) (h:EnA H ab e):EnA (upd H l (.lst ys)) ab e := let ⟨a,us,b,c⟩ := h; ⟨by rw [zp n1]; exact a,us,by rw [zp n2]; exact b,c.updL hl⟩
theorem EnAs.updL {H:Hp} {l:Addr} {xs ys:List V} (hl:H l = some (.lst xs)):∀ {abs:List (Addr × Addr)} {p:List E},l ∉ ads abs -> EnAs H abs p -> EnAs (upd H l (.lst ys)) abs p
 | _,_,_,.nil => .nil
 | _,_,n,.cons h r => .cons (h.updL hl (fun z => n (by rw [<- z]; exact (XJ List.mem_cons_self).1)) (fun z => n (by rw [<- z]; exact (XJ List.mem_cons_self).2))) (EnAs.updL hl (fun z => n (by
     unfold ads at z ⊢
     rw [List.flatMap_cons]
     exact List.mem_append_right _ z)) r)
theorem EnAs.get {H:Hp}:∀ {abs:List (Addr × Addr)} {p:List E} {i:Nat} {ab:Addr × Addr},EnAs H abs p -> abs[i]? = some ab -> ∃ e,p[i]? = some e /\ EnA H ab e
 | _,_,_,_,.nil,e => by simp at e
 | _,_,0,_,.cons r _,e => by simp at e; subst e; exact ⟨_,rfl,r⟩
 | _,_,i + 1,ab,.cons _ t,e => by
   obtain ⟨p,h1,h2⟩ := EnAs.get (i := i) (ab := ab) t (by simpa using e)
   exact ⟨p,by simpa using h1,h2⟩
structure PlAt (H0 H:Hp) (lp:Addr) (abs:List (Addr × Addr)) (ab:Addr × Addr) (p:List E) (top:E):Prop where
 same:Same H0 H
 lst:H lp = some (.lst ((abs ++ [ab]).map rf))
 ens:EnAs H abs p
 en:EnA H ab top
 nd:(lp :: ads (abs ++ [ab])).Nodup
 fr:∀ z ∈ lp :: ads (abs ++ [ab]),H0 z = none
section
variable {H0 H H':Hp} {lp:Addr} {abs:List (Addr × Addr)} {ab:Addr × Addr} {p:List E} {top:E}
theorem PlAt.alloc (h:PlAt H0 H lp abs ab p top) (S:Same H H'):PlAt H0 H' lp abs ab p top := ⟨h.same.trans S,S _ _ h.lst,h.ens.same S,h.en.same S,h.nd,h.fr⟩
theorem PlAt.last (h:PlAt H0 H lp abs ab p top):atI ((abs ++ [ab]).map rf) (-1) = some (.ref ab.1) := by
 rw [List.map_append]
 exact wQ _ _
theorem PlAt.add (h:PlAt H0 H lp abs ab p top) {us:List V} {v:V} {t:T} (hu:H ab.2 = some (.lst us)) (hA:AtL H us top.ps) (hv:At H v t) (ms:List Nat):PlAt H0 (upd H ab.2 (.lst (us ++ [v]))) lp abs ab p ⟨top.k,top.ps ++ [t],ms⟩ := by
 have nd := h.nd
 rw [xG,jc] at nd
 have hfr := h.fr ab.2 (by rw [xG,jc]; exact List.mem_cons_of_mem _ (List.mem_append_right _ (List.mem_cons_of_mem _ List.mem_cons_self)))
 obtain ⟨n1,n2⟩ := List.nodup_cons.mp nd
 obtain ⟨n3,n4,n5⟩ := List.nodup_append.mp n2
 have d1:lp ≠ ab.2 := fun z => n1 (by rw [z]; exact List.mem_append_right _ (List.mem_cons_of_mem _ List.mem_cons_self))
 have d2:ab.1 ≠ ab.2 := fun z => (List.nodup_cons.mp n4).1 (by rw [z]; exact List.mem_cons_self)
 have d3:ab.2 ∉ ads abs := fun z => n5 _ z _ (List.mem_cons_of_mem _ List.mem_cons_self) rfl
 refine ⟨zW h.same hfr,by rw [zp d1]; exact h.lst,h.ens.updL hu d3,⟨by rw [zp d2]; exact h.en.1,_,zc,?_⟩,h.nd,h.fr⟩
 exact (hA.updL hu).app (.cons (hv.updL hu) .nil)
theorem PlAt.push (h:PlAt H0 H lp abs ab p top) {a b:Addr} {k:Str} (S:Same H H') (na:H a = none) (nb:H b = none) (dab:a ≠ b) (ha:H' a = some (.lst [.str k,.ref b])) (hb:H' b = some (.lst [])):PlAt H0 (upd H' lp (.lst ((abs ++ [ab]).map rf ++ [.ref a]))) lp (abs ++ [ab]) (a,b) (p ++ [top]) ⟨k,[],[]⟩ := by
 have h' := h.alloc S
 have hfr := h.fr lp List.mem_cons_self
 obtain ⟨n1,n2⟩ := List.nodup_cons.mp h.nd
 have fre:∀ z,H z = none -> H0 z = none := fun z e => h.same.free e
 have inH:∀ z ∈ lp :: ads (abs ++ [ab]),H z ≠ none := fun z hz e => by
   rcases List.mem_cons.mp hz with q | q
   · rw [q,h.lst] at e; cases e
   · rw [xG] at q
     rcases List.mem_append.mp q with q | q
     · unfold ads at q
       obtain ⟨cd,hc,hq⟩ := List.mem_flatMap.mp q
       obtain ⟨i,hi,ei⟩ := List.mem_iff_getElem.mp hc
       obtain ⟨e',_,hE⟩ := h.ens.get (i := i) (ab := cd) (by rw [List.getElem?_eq_getElem hi,ei])
       rcases List.mem_cons.mp hq with r | r
       · rw [r,hE.1] at e; cases e
       · rw [List.mem_singleton.mp r] at e
         obtain ⟨us,e2,_⟩ := hE.2
         rw [e2] at e; cases e
     · rcases List.mem_cons.mp q with r | r
       · rw [r,h.en.1] at e; cases e
       · rw [List.mem_singleton.mp r] at e
         obtain ⟨us,e2,_⟩ := h.en.2
         rw [e2] at e; cases e
 have la:a ∉ lp :: ads (abs ++ [ab]) := fun z => inH a z na
 have lb:b ∉ lp :: ads (abs ++ [ab]) := fun z => inH b z nb
 have d1:a ≠ lp := fun z => la (by rw [z]; exact List.mem_cons_self)
 have d2:b ≠ lp := fun z => lb (by rw [z]; exact List.mem_cons_self)
 have ens2:EnAs H' (abs ++ [ab]) (p ++ [top]) := Paired.snoc h'.ens h'.en
 refine ⟨zW h'.same hfr,by rw [zc,List.map_append (l₂ := [(a,b)])]; rfl,ens2.updL h'.lst n1,⟨by rw [zp d1]; exact ha,[],by rw [zp d2]; exact hb,.nil⟩,?_,fun z hz => ?_⟩
 · rw [xG (abs ++ [ab]),jc,<- List.cons_append]
   refine List.nodup_append.mpr ⟨h.nd,List.nodup_cons.mpr ⟨fun z => dab (List.mem_singleton.mp z),List.nodup_cons.mpr ⟨List.not_mem_nil,List.nodup_nil⟩⟩,fun x hx y hy e => ?_⟩
   rw [e] at hx
   rcases List.mem_cons.mp hy with r | r
   · rw [r] at hx; exact la hx
   · rw [List.mem_singleton.mp r] at hx; exact lb hx
 · rw [xG (abs ++ [ab]),jc,<- List.cons_append] at hz
   rcases List.mem_append.mp hz with q | q
   · exact h.fr z q
   · rcases List.mem_cons.mp q with r | r
     · rw [r]; exact fre _ na
     · rw [List.mem_singleton.mp r]; exact fre _ nb
theorem PlAt.pop {b:E} (h:PlAt H0 H lp abs ab (p ++ [b]) top):∃ abs' ab',abs = abs' ++ [ab'] /\ PlAt H0 (upd H lp (.lst ((abs ++ [ab]).map rf).dropLast)) lp abs' ab' p b /\ EnA (upd H lp (.lst ((abs ++ [ab]).map rf).dropLast)) ab top := by
 obtain ⟨abs',ab',rfl,h1,h2⟩ := Paired.unsnoc h.ens
 obtain ⟨n1,n2⟩ := List.nodup_cons.mp h.nd
 have hfr := h.fr lp List.mem_cons_self
 rw [xG] at n1 n2
 obtain ⟨n3,n4,n5⟩ := List.nodup_append.mp n2
 have m1:lp ∉ ads (abs' ++ [ab']) := fun z => n1 (List.mem_append_left _ z)
 have ens2:EnAs H (abs' ++ [ab']) (p ++ [b]) := h.ens
 have ens3 := ens2.updL (ys := ((abs' ++ [ab'] ++ [ab]).map rf).dropLast) h.lst m1
 obtain ⟨_,_,e,g1,g2⟩ := Paired.unsnoc ens3
 obtain ⟨e1,e2⟩ := List.append_inj' e rfl
 injection e2 with e2
 subst e1 e2
 refine ⟨_,_,rfl,⟨zW h.same hfr,by rw [zc,List.map_append (l₂ := [ab]),List.map_cons,List.map_nil,List.dropLast_concat],g1,g2,List.nodup_cons.mpr ⟨m1,n3⟩,fun z hz => h.fr z ?_⟩,h.en.updL h.lst (fun z => n1 ?_) (fun z => n1 ?_)⟩
 · rcases List.mem_cons.mp hz with q | q
   · rw [q]; exact List.mem_cons_self
   · rw [xG _ [ab]]
     exact List.mem_cons_of_mem _ (List.mem_append_left _ q)
 · rw [<- z]; exact List.mem_append_right _ List.mem_cons_self
 · rw [<- z]; exact List.mem_append_right _ (List.mem_cons_of_mem _ List.mem_cons_self)
end
def Xi:Sp := fun vs H Q _ => ∃ (lp:Addr) (abs:List (Addr × Addr)) (ab:Addr × Addr) (p:List E) (top:E),vs = [.ref lp] /\ H lp = some (.lst ((abs ++ [ab]).map rf)) /\ EnAs H abs p /\ EnA H ab top /\ abs.length <= 1000 /\ ∀ H',Same H H' -> Q (nV (zA top + z7 p)) H'
section
variable {P:Program} {w:World} {K:PySem.W.Frag} {mg:Str -> Option Value} {base:Heap}
theorem qG:zu ["pile","lack","kind","parts"] ["pile"] (ze jb) := ⟨rfl,rfl,rfl,by decide +kernel,rfl,by decide +kernel,by decide +kernel⟩
theorem zaE {f:Addr} {fd:FuncData} (F:Fun K "_law_lack" "_law_lack" jb f fd) (tl:mg "len" = none) (tmax:mg "max" = none):FnOk P w K mg base CX0 1 f fd ["pile"] Xi := by
 refine F.ok qG (fun vs H Q E h => ?_) (fun cdv A outer s H vs Q E hr h => ?_)
 · obtain ⟨lp,abs,ab,p,top,rfl,_⟩ := h
   rfl
 · obtain ⟨lp,abs,ab,p,top,rfl,hlp,hE,hT,l1000,q⟩ := h
   refine ⟨_,(zd (zx (i := 1) qG.nd rfl (Or.inl rfl) (zi (qi rfl) (by rfl) tmax PyProof.Rows.boot_max (za zh (za (zw yS zh (zi zm (by rfl) tl PySem.boot_len (za (zk zy (zk zy (pv 0) (yP yt zh) (fun _ _ => rfl)) zh (fun _ _ => rfl)) zb))) zb))))
     (zd (yq PassesOwn.never rfl (yi (yG xP (pv 0) xb (yL (yP yt zh)))) (zbC rfl (zP (zr (i := 2) qG.nd rfl (Or.inl rfl)) (zP (zr (i := 3) qG.nd rfl (Or.inl rfl)) yU)))
     (zg (zx (i := 1) qG.nd rfl (Or.inl rfl) (zw ya (pv 1) (zi (qi rfl) (by rfl) tmax PyProof.Rows.boot_max (za zh (za (zw yS zh (zi zm (by rfl) tl PySem.boot_len (za (pv 3) zb))) zb)))))))
     (zg (zn (pv 1))))),?_⟩
   obtain ⟨h1,us,h2,hA⟩ := hT
   have lA := hA.len
   have lE := hE.len
   have ez:atI ((abs ++ [ab]).map rf) (-1) = some (.ref ab.1) := by
     rw [List.map_append]
     exact wQ _ _
   refine wq (v := nV (zA top)) (fun Q q => ⟨_,rfl,1,rfl,lp,_,_,_,rfl,rfl,SqL.of hlp,ez,ab.1,_,_,_,rfl,rfl,SqL.of h1,rfl,ab.2,us,rfl,.inl (SqL.of h2),_,_,rfl,rfl,_,_,rfl,(by
     show Q (V.int (if (2:Int) - ((us.length:Nat):Int) > 0 then (2:Int) - ((us.length:Nat):Int) else 0)) H
     rw [show (if (2:Int) - ((us.length:Nat):Int) > 0 then (2:Int) - ((us.length:Nat):Int) else 0) = ((zA top:Nat):Int) by unfold zA; split <;> omega]
     exact q)⟩) ?_
   refine run_seq ⟨_,rfl,1,rfl,_,rfl,lp,_,rfl,SqL.of hlp,fun p1 n1 => ?_⟩
   rw [jz (by rw [List.length_map,List.length_append]; exact Nat.succ_pos _),List.map_append,List.map_cons,List.map_nil,List.dropLast_concat]
   have S1 := zf (o := .lst (abs.map rf)) n1
   have hp1:(upd H p1 (.lst (abs.map rf))) p1 = some (.lst (abs.map rf)) := zc
   have hE1 := hE.same S1
   generalize upd H p1 (.lst (abs.map rf)) = H1 at S1 hp1 hE1
   refine ⟨p1,rfl,⟨_,SqL.of hp1⟩,?_⟩
   refine xz (K := K) (a := p1) (xs := abs.map rf) (fun i σ H2 => ∃ o2 o3:Option V,σ = [some (.ref lp),some (nV (zA top + z7 (p.take i))),o2,o3] /\ H2 = H1) ⟨none,none,rfl,rfl⟩ (fun i σ H2 _ ⟨_,_,_,e⟩ => by rw [e]; exact SqL.of hp1) ?_ ?_
   · rintro i x σ H2 hi ⟨o2,o3,rfl,rfl⟩
     rw [List.getElem?_map] at hi
     obtain ⟨cd,hcd,rfl⟩ := Option.map_eq_some_iff.mp hi
     obtain ⟨e,he,h3,ws,h4,hB⟩ := hE1.get hcd
     have lB := hB.len
     refine ⟨cd.1,_,rfl,SqL.of h3,rfl,_,_,rfl,_,_,rfl,rfl,?_⟩
     refine ⟨_,rfl,_,rfl,cd.2,ws,rfl,.inl (SqL.of h4),_,_,rfl,rfl,_,_,rfl,_,_,rfl,rfl,?_⟩
     have e5:((zA top + z7 (p.take i):Nat):Int) + (if (1:Int) - ((ws.length:Nat):Int) > 0 then (1:Int) - ((ws.length:Nat):Int) else 0) = ((zA top + z7 (p.take (i + 1)):Nat):Int) := by
       rw [List.take_add_one,he,Shp.qE]
       show _ = ((zA top + (z7 (p.take i) + z7 [e]):Nat):Int)
       rw [Shp.qF]
       unfold wg
       split <;> omega
     exact ⟨_,_,congrArg (fun z => [some (V.ref lp),some (V.int z),some (V.str e.k),some (V.ref cd.2)]) e5,rfl⟩
   · rintro σ H2 ⟨o2,o3,rfl,rfl⟩
     refine ⟨_,rfl,?_⟩
     rw [List.length_map,lE,List.take_length]
     exact q _ S1
end
end JI
namespace JI
open PySem L2 Lin Tre PySem.W
open Shp (Sh ShL E Ent Pok zA wg z7 many full yI oth Alt)
theorem XL (k:Nat):(List.replicate k [V.non]).flatten = List.replicate k V.non := by
 induction k with
 | zero => rfl
 | succ k ih => rw [List.replicate_succ,List.flatten_cons,ih,List.replicate_succ]; rfl
theorem AtL.nons {H:Hp}:∀ k:Nat,AtL H (List.replicate k V.non) (List.replicate k T.non)
 | 0 => .nil
 | k + 1 => by
   rw [List.replicate_succ,List.replicate_succ]
   exact .cons .non (AtL.nons k)
theorem xo (p:List E) (top:E):many (p ++ [top]) = many p + top.ms.sum := by rw [Shp.xF,Shp.y8]
theorem Ent.len {e:E} (h:Ent e):e.ps.length <= e.ms.sum := h.sh.sum
theorem Pok.small {kind:Str} {most:Nat} {p:List E} {top:E} (h:Pok kind most p top):top.ps.length <= most := by
 have h0 := h.sum
 rw [xo] at h0
 have := Ent.len (h.ent top (List.mem_append_right _ List.mem_cons_self))
 omega
theorem Wc (k:Str) (hk:isK k):∃ c:Nat,atI [124,45] (if decide (V.str k = V.str "|") then (1:Int) else 0) = some c /\ txt [c] = oth k := by
 unfold oth
 rcases hk with e | e
 · rw [e,decide_eq_true (show V.str bar = V.str "|" from rfl),if_pos rfl]
   exact ⟨45,rfl,by decide +kernel⟩
 · rw [e,decide_eq_false (fun z:V.str dash = V.str "|" => w9 (V.str.inj z)),if_neg (fun z => w9 z)]
   exact ⟨124,rfl,by decide +kernel⟩
theorem Xj {p:List E} (h:1 <= p.length):∃ p' b,p = p' ++ [b] := by
 have hne:p ≠ [] := by intro z; rw [z] at h; exact absurd h (by decide)
 exact ⟨p.dropLast,p.getLast hne,(List.dropLast_concat_getLast hne).symm⟩
def Zn:Sp := fun vs H Q _ => ∃ (a:Addr) (ns:List Int) (kind:Str) (most:Nat),vs = [.ref a,.str kind,.int most] /\ H a = some (.lst (ns.map V.int)) /\ ns.length <= 100 /\ isK kind /\ 2 <= most /\ most <= 24 /\ ∀ (v:V) (t:T) (m:Nat) (H':Hp),Same H H' -> At H' v t -> Sh t m -> m <= most -> Q v H'
section
variable {P:Program} {w:World} {K:PySem.W.Frag} {mg:Str -> Option Value} {base:Heap}
theorem xr:zu ["cells","kind","most","pile","many","cell","room","closed"] ["cells","kind","most"] (ze wL) := ⟨rfl,rfl,rfl,by decide +kernel,rfl,by decide +kernel,by decide +kernel⟩
theorem Jl {f fL:Addr} {fd dL:FuncData} (F:Fun K "_law_shape" "_law_shape" wL f fd) (tl:mg "len" = none) (tint:mg "int" = none) (ttup:mg "tuple" = none) (La:Callee P w K mg base CX0 1 "_law_lack" fL dL ["pile"] Xi):FnOk P w K mg base CX0 2 f fd ["cells","kind","most"] Zn := by
 refine F.ok xr (fun vs H Q E h => ?_) (fun cdv A outer s H vs Q E hr h => ?_)
 · obtain ⟨a,ns,kind,most,rfl,_⟩ := h
   rfl
 · obtain ⟨a,ns,kind,most,rfl,ha,hn,hk,m2,m24,q⟩ := h
   refine ⟨_,(zd (zO (PW.pt (yH (zC xv (pv 2) zh (zE _)) (yR (zC (Yx hr.units) (pv 0) (zV zb) (zE _)))))
     (zg (zn y0))
     zH)
     (zd (zx (i := 3) xr.nd rfl (Or.inl rfl) (zV (za (zV (za (pv 1) (za (zV zb) zb))) zb)))
     (zd (zx (i := 4) xr.nd rfl (Or.inl rfl) zh)
     (zd (yq PassesOwn.never rfl (yi (pv 0)) (zr (i := 5) xr.nd rfl (Or.inl rfl))
     (zd (zx (i := 6) xr.nd rfl (Or.inl rfl) (zw yS (zw yS (pv 2) (pv 4)) (zj La.ok hr rfl La.bound La.kp La.bd .nil zB (za (pv 3) zb))))
       (zg (zO (PW.pt (wm (zC xu (zw yr (pv 5) zh) zh (zE _)) (wk (PW.pt (yH (zC yY (pv 6) zh (zE _)) (yR (PW.pt (wm (zC xu (pv 6) zh (zE _)) (wk (zC xv (zi zm (by rfl) tl PySem.boot_len (za (zk zy (zk zy (pv 3) (yP yt zh) (fun _ _ => rfl)) zh (fun _ _ => rfl)) zb)) zh (zE _)))))))))))
       (zg (z8 (yz PySem.F.plainAttrs_list PySem.F.slot_list_append PySem.F.type_list_append ym (pv 3) (za (zV (za (zk qJ yd (yN Z1 rfl tint PyProof.Rows.boot_int (za (yJ xu (zk zy (zk zy (pv 3) (yP yt zh) (fun _ _ => rfl)) zh (fun _ _ => rfl)) yd (zE _)) zb)) (fun _ _ => rfl)) (za (zV zb) zb))) zb))))
       (zg (zO (PW.pt (wm (zC xu (zw yr (pv 5) zh) zh (zE _)) (wm (zC yY (zi zm (by rfl) tl PySem.boot_len (za (pv 3) zb)) zh (zE _)) (wk (zC yY (zi zm (by rfl) tl PySem.boot_len (za (zk zy (zk zy (pv 3) (yP yt zh) (fun _ _ => rfl)) zh (fun _ _ => rfl)) zb)) zh (zE _))))))
         (zd (zx (i := 7) xr.nd rfl (Or.inl rfl) (Yn PySem.F.plainAttrs_list PySem.F.slot_list_pop PySem.F.type_list_pop Yo (pv 3)))
           (zg (z8 (yz PySem.F.plainAttrs_list PySem.F.slot_list_append PySem.F.type_list_append ym (zk zy (zk zy (pv 3) (yP yt zh) (fun _ _ => rfl)) zh (fun _ _ => rfl)) (za (yK (za (zk zy (pv 7) zh (fun _ _ => rfl)) (za (yN xk rfl ttup PyProof.Rows.boot_tuple (za (zk zy (pv 7) zh (fun _ _ => rfl)) zb)) zb))) zb)))))
         (zg (zO (PW.pt (yH (zC yY (pv 6) zh (zE _)) (yR (zC xv (zi zm (by rfl) tl PySem.boot_len (za (zk zy (zk zy (pv 3) (yP yt zh) (fun _ _ => rfl)) zh (fun _ _ => rfl)) zb)) zh (zE _)))))
           (zd (z8 (yz PySem.F.plainAttrs_list PySem.F.slot_list_append PySem.F.type_list_append ym (zk zy (zk zy (pv 3) (yP yt zh) (fun _ _ => rfl)) zh (fun _ _ => rfl)) (za y0 zb)))
             (zg (zx (i := 4) xr.nd rfl (Or.inl rfl) (zw ya (pv 4) zh))))
           zH))))))))
     (zd (wP PassesOwn.never (zC yY (zi zm (by rfl) tl PySem.boot_len (za (pv 3) zb)) zh (zE _))
     (zd (zx (i := 7) xr.nd rfl (Or.inl rfl) (Yn PySem.F.plainAttrs_list PySem.F.slot_list_pop PySem.F.type_list_pop Yo (pv 3)))
       (zg (z8 (yz PySem.F.plainAttrs_list PySem.F.slot_list_append PySem.F.type_list_append ym (zk zy (zk zy (pv 3) (yP yt zh) (fun _ _ => rfl)) zh (fun _ _ => rfl)) (za (yK (za (zk zy (pv 7) zh (fun _ _ => rfl)) (za (yN xk rfl ttup PyProof.Rows.boot_tuple (za (zw Yq (zk zy (pv 7) zh (fun _ _ => rfl)) (zw jJ (zV (za y0 zb)) (zw yS zh (zi zm (by rfl) tl PySem.boot_len (za (zk zy (pv 7) zh (fun _ _ => rfl)) zb))))) zb)) zb))) zb))))))
     (zg (zn (yK (za (pv 1) (za (yN xk rfl ttup PyProof.Rows.boot_tuple (za (zw Yq (zk zy (zk zy (pv 3) zh (fun _ _ => rfl)) zh (fun _ _ => rfl)) (zw jJ (zV (za y0 zb)) (zw yS zh (zi zm (by rfl) tl PySem.boot_len (za (zk zy (zk zy (pv 3) zh (fun _ _ => rfl)) zh (fun _ _ => rfl)) zb))))) zb)) zb)))))))))),?_⟩
   refine ⟨_,rfl,_,_,rfl,rfl,_,rfl,?_⟩
   rw [decide_eq_false (show ¬ ((most:Nat):Int) < 2 by omega)]
   refine iteF ?_
   refine ⟨_,rfl,by show 0 <= sizeLine; decide,fun le nle => ?_⟩
   have S1 := zf (o := .lst []) nle
   have he:upd H le (.lst []) le = some (.lst []) := zc
   have ha1 := S1 _ _ ha
   generalize upd H le (.lst []) = H1 at S1 he ha1
   refine ⟨_,_,1,_,rfl,rfl,eq_empty ha1 he,by decide,_,rfl,?_⟩
   refine ite2 (fun _ => q .non .non 1 H1 S1 .non .leaf (by omega)) (fun _ => ?_)
   refine zY ?_
   dsimp only
   -- the pile
   refine qK ⟨_,rfl,by show 0 <= sizeLine; decide,fun b nb => ⟨by show 2 <= sizeLine; decide,fun a1 na1 => ⟨by show 1 <= sizeLine; decide,fun lp nlp => ?_⟩⟩⟩
   have S2 := zf (o := .lst []) nb
   have hb:upd H1 b (.lst []) b = some (.lst []) := zc
   generalize upd H1 b (.lst []) = H2 at S2 hb na1 nlp
   have S3 := zf (o := .lst [.str kind,.ref b]) na1
   have ha3:upd H2 a1 (.lst [.str kind,.ref b]) a1 = some (.lst [.str kind,.ref b]) := zc
   have hb3 := S3 _ _ hb
   have nab:a1 ≠ b := fun z => by rw [z,hb] at na1; cases na1
   generalize upd H2 a1 (.lst [.str kind,.ref b]) = H3 at S3 ha3 hb3 nlp
   have S4 := zf (o := .lst [.ref a1]) nlp
   have hlp:upd H3 lp (.lst [.ref a1]) lp = some (.lst [.ref a1]) := zc
   have n1:lp ≠ a1 := fun z => by rw [z,ha3] at nlp; cases nlp
   have n2:lp ≠ b := fun z => by rw [z,hb3] at nlp; cases nlp
   generalize upd H3 lp (.lst [.ref a1]) = H4 at S4 hlp
   have S14 := S2.trans (S3.trans S4)
   have S04 := S1.trans S14
   have pl0:PlAt H H4 lp [] (a1,b) [] ⟨kind,[],[]⟩ := ⟨S04,hlp,.nil,⟨S4 _ _ ha3,[],S4 _ _ hb3,.nil⟩,List.nodup_cons.mpr ⟨fun z => by
       rcases List.mem_cons.mp z with r | r
       · exact n1 r
       · exact n2 (List.mem_singleton.mp r),List.nodup_cons.mpr ⟨fun z => nab (List.mem_singleton.mp z),List.nodup_cons.mpr ⟨List.not_mem_nil,List.nodup_nil⟩⟩⟩,fun z hz => by
       rcases List.mem_cons.mp hz with r | r
       · rw [r]; exact (S1.trans (S2.trans S3)).free nlp
       · rcases List.mem_cons.mp r with r | r
         · rw [r]; exact (S1.trans S2).free na1
         · rw [List.mem_singleton.mp r]; exact S1.free nb⟩
   refine zF ?_
   try dsimp only
   refine run_seq ⟨_,rfl,a,rfl,⟨_,SqL.of (S04 _ _ ha)⟩,?_⟩
   refine xz (K := K) (a := a) (xs := ns.map V.int) (fun i σ H5 => ∃ (abs:List (Addr × Addr)) (ab:Addr × Addr) (p:List Shp.E) (top:Shp.E) (o5 o6 o7:Option V),σ = [some (.ref a),some (.str kind),some (.int most),some (.ref lp),some (nV (many (p ++ [top]))),o5,o6,o7] /\ PlAt H H5 lp abs ab p top /\ Pok kind most p top /\ p.length <= i)
     ⟨[],_,[],_,none,none,none,rfl,pl0,Pok.start hk m2,Nat.le_refl _⟩ (fun i σ H5 _ ⟨_,_,_,_,_,_,_,_,pl,_,_⟩ => SqL.of (pl.same _ _ ha)) ?_ ?_
   · rintro i x σ H5 hi ⟨abs,ab,p,top,o5,o6,o7,rfl,pl,ok,lp1⟩
     rw [List.getElem?_map] at hi
     obtain ⟨c,hc,rfl⟩ := Option.map_eq_some_iff.mp hi
     obtain ⟨hil,_⟩ := List.getElem?_eq_some_iff.mp hc
     refine zF ?_
     try dsimp only
     have lE := pl.ens.len
     refine ⟨_,rfl,_,rfl,_,_,rfl,rfl,_,rfl,lp,abs,ab,p,top,rfl,pl.lst,pl.ens,pl.en,by omega,fun H6 S6 => ⟨_,_,rfl,rfl,?_⟩⟩
     have pl6 := pl.alloc S6
     have hsum := ok.sum
     have hsm := Pok.small ok
     obtain ⟨h1,us,h2,hA⟩ := pl6.en
     have lA := hA.len
     refine zF ?_
     try dsimp only
     have evL:∀ {σ:St},σ[3]? = some (some (.ref lp)) -> Evl (tCB (fun xs H Q => ∃ p ys,xs = [.ref p] /\ (SqL K H p ys \/ SqT K H p ys) /\ Q (.int ys.length) H) (xi (tOp (rIxL K) (tOp (rIxL K) (tVar 3) (tUn (rU fun i => .int (-i)) (tC (.int 1)))) (tC (.int 1))) tNil)) σ H6 (.int us.length) := fun z => yu (xc (xc (zl z) (zbZ zU) (SqL.of pl6.lst) pl6.last) zU (SqL.of h1) rfl) (SqL.of h2)
     refine xK (p := c % 4 = 0 /\ ((1:Int) < ((most:Nat):Int) - ((many (p ++ [top]):Nat):Int) - ((zA top + z7 p:Nat):Int) \/ (((most:Nat):Int) - ((many (p ++ [top]):Nat):Int) - ((zA top + z7 p:Nat):Int) = 1 /\ ((us.length:Nat):Int) < 2)))
       (wV (zZ (wp (JB (zl rfl) zU (show (0:Int) < 4 by decide)) zU)) fun _ => XG (zZ (zS (zl rfl) zU)) fun _ => wV (zZ (wp (zl rfl) zU)) fun _ => zZ (zS (evL rfl) zU)) (fun cc => ?_) (fun _ => ?_)
     · -- one more knot
       obtain ⟨ch,hch,ech⟩ := Wc top.k (ok.ent top (List.mem_append_right _ List.mem_cons_self)).hk
       refine ⟨_,rfl,.inl ⟨rfl,_,SqL.of pl6.lst⟩,_,rfl,1,rfl,lp,_,_,_,rfl,rfl,SqL.of pl6.lst,pl6.last,ab.1,_,_,_,rfl,rfl,SqL.of h1,rfl,rfl,_,rfl,[124,45],_,ch,congrArg V.str XD,rfl,by decide,hch,by show 0 <= sizeLine; decide,fun b2 nb2 => ⟨by show 2 <= sizeLine; decide,fun a2 na2 => ?_⟩⟩
       rw [ech]
       have T1 := zf (o := .lst []) nb2
       have hb2:upd H6 b2 (.lst []) b2 = some (.lst []) := zc
       have na6 := T1.free na2
       generalize upd H6 b2 (.lst []) = H7 at T1 hb2 na2
       have T2 := zf (o := .lst [.str (oth top.k),.ref b2]) na2
       have ha2:upd H7 a2 (.lst [.str (oth top.k),.ref b2]) a2 = some (.lst [.str (oth top.k),.ref b2]) := zc
       have hb2' := T2 _ _ hb2
       have nab2:a2 ≠ b2 := fun z => by rw [z,hb2] at na2; cases na2
       generalize upd H7 a2 (.lst [.str (oth top.k),.ref b2]) = H8 at T2 ha2 hb2'
       have T12 := T1.trans T2
       refine ⟨lp,_,_,rfl,rfl,T12 _ _ pl6.lst,by rw [List.length_map,List.length_append]; exact Nat.lt_of_le_of_lt (show _ <= 1000 by have:[ab].length = 1 := rfl; omega) (by decide),?_⟩
       refine ⟨abs ++ [ab],(a2,b2),p ++ [top],⟨oth top.k,[],[]⟩,some (.int c),some (.int (((most:Nat):Int) - ((many (p ++ [top]):Nat):Int) - ((zA top + z7 p:Nat):Int))),o7,?_,pl6.push T12 na6 nb2 nab2 ha2 hb2',ok.push (by
         rw [lA] at cc
         rcases cc.2 with z | z
         · exact .inl (by omega)
         · exact .inr ⟨by omega,by omega⟩),by rw [List.length_append]; exact Nat.succ_le_succ lp1⟩
       rw [xo (p ++ [top])]
       rfl
     · have lpl:∀ {σ:St},σ[3]? = some (some (.ref lp)) -> Evl (tCB (fun xs H Q => ∃ p ys,xs = [.ref p] /\ (SqL K H p ys \/ SqT K H p ys) /\ Q (.int ys.length) H) (xi (tVar 3) tNil)) σ H6 (.int (((abs ++ [ab]).map rf).length:Nat)) := fun z => yu (zl z) (SqL.of pl6.lst)
       refine xK (p := c % 4 = 3 /\ ((1:Int) < ((((abs ++ [ab]).map rf).length:Nat):Int) /\ (1:Int) < ((us.length:Nat):Int)))
         (wV (zZ (wp (JB (zl rfl) zU (show (0:Int) < 4 by decide)) zU)) fun _ => wV (zZ (zS (lpl rfl) zU)) fun _ => zZ (zS (evL rfl) zU)) (fun cc => ?_) (fun _ => ?_)
       · -- the topmost knot is closed
         obtain ⟨_,c1,c2⟩ := cc
         rw [List.length_map,List.length_append] at c1
         have c1:1 <= p.length := by have:[ab].length = 1 := rfl; omega
         obtain ⟨p',e,rfl⟩ := Xj c1
         obtain ⟨abs',ab',rfl,pl7,en7⟩ := pl6.pop
         refine ⟨_,rfl,.inl ⟨rfl,_,SqL.of pl6.lst⟩,lp,_,.ref ab.1,rfl,rfl,pl6.lst,(by simp [rf]),?_⟩
         generalize upd H6 lp (.lst ((abs' ++ [ab'] ++ [ab]).map rf).dropLast) = H7 at pl7 en7
         refine zF ?_
         try dsimp only
         obtain ⟨g1,us7,g2,gA⟩ := en7
         have l7 := gA.len
         obtain ⟨k1,ws,k2,kA⟩ := pl7.en
         have lk := kA.len
         have okc := ok.close
         have smc := Pok.small okc
         rw [List.length_append] at smc
         refine ⟨_,rfl,1,rfl,lp,_,_,_,rfl,rfl,SqL.of pl7.lst,pl7.last,ab'.1,_,_,_,rfl,rfl,SqL.of k1,rfl,.inl ⟨rfl,_,SqL.of k2⟩,_,rfl,ab.1,_,_,_,rfl,rfl,SqL.of g1,rfl,_,rfl,ab.1,_,_,_,rfl,rfl,SqL.of g1,rfl,ab.2,us7,rfl,.inl ⟨SqL.of g2,fun t1 nt1 => ⟨by show 2 <= sizeLine; decide,fun t2 nt2 => ?_⟩⟩⟩
         have T1 := zf (o := .tup us7) nt1
         have ht1:upd H7 t1 (.tup us7) t1 = some (.tup us7) := zc
         generalize upd H7 t1 (.tup us7) = H8 at T1 ht1 nt2
         have T2 := zf (o := .tup [.str top.k,.ref t1]) nt2
         have ht2:upd H8 t2 (.tup [.str top.k,.ref t1]) t2 = some (.tup [.str top.k,.ref t1]) := zc
         generalize upd H8 t2 (.tup [.str top.k,.ref t1]) = H9 at T2 ht2
         have T12 := T1.trans T2
         have ef:full top = .tup [.str top.k,.tup top.ps] := by
           unfold Shp.full
           rw [show zA top = 0 by unfold zA; omega,List.replicate_zero,List.append_nil]
         have hv:At H9 (.ref t2) (full top) := by
           rw [ef]
           exact .tup ht2 (.cons (.str _) (.cons (.tup (T2 _ _ ht1) (gA.same T12)) .nil))
         refine ⟨ab'.2,_,_,rfl,rfl,T12 _ _ k2,Nat.lt_of_le_of_lt (show ws.length <= 1000 by omega) (by decide),?_⟩
         have em:many (p' ++ [e] ++ [top]) = many (p' ++ [⟨e.k,e.ps ++ [full top],e.ms ++ [yI top]⟩]) := by
           rw [xo,xo,xo,List.sum_append,List.sum_singleton]
           unfold Shp.yI
           rw [show zA top = 0 by unfold zA; omega]
           omega
         exact ⟨abs',ab',p',⟨e.k,e.ps ++ [full top],e.ms ++ [yI top]⟩,some (.int c),_,some (.ref ab.1),congrArg (fun z => [some (V.ref a),some (V.str kind),some (V.int most),some (V.ref lp),some (nV z),some (V.int c),some (V.int (((most:Nat):Int) - ((many (p' ++ [e] ++ [top]):Nat):Int) - ((zA top + z7 (p' ++ [e]):Nat):Int))),some (V.ref ab.1)]) em,(pl7.alloc T12).add (T12 _ _ k2) (kA.same T12) hv _,okc,by rw [List.length_append] at lp1; omega⟩
       · refine xK (p := (0:Int) < (((most:Nat):Int) - ((many (p ++ [top]):Nat):Int) - ((zA top + z7 p:Nat):Int)) \/ ((us.length:Nat):Int) < 2) (XG (zZ (zS (zl rfl) zU)) fun _ => zZ (zS (evL rfl) zU)) (fun cc => ?_) (fun _ => ?_)
         · refine ⟨_,rfl,1,rfl,lp,_,_,_,rfl,rfl,SqL.of pl6.lst,pl6.last,ab.1,_,_,_,rfl,rfl,SqL.of h1,rfl,.inl ⟨rfl,_,SqL.of h2⟩,ab.2,_,_,rfl,rfl,h2,Nat.lt_of_le_of_lt (show us.length <= 1000 by omega) (by decide),?_⟩
           refine ⟨_,rfl,_,_,rfl,rfl,?_⟩
           have em:((many (p ++ [top]):Nat):Int) + 1 = ((many (p ++ [⟨top.k,top.ps ++ [.non],top.ms ++ [1]⟩]):Nat):Int) := by
             rw [xo,xo,List.sum_append,List.sum_singleton]
             omega
           exact ⟨abs,ab,p,⟨top.k,top.ps ++ [.non],top.ms ++ [1]⟩,some (.int c),_,o7,congrArg (fun z => [some (V.ref a),some (V.str kind),some (V.int most),some (V.ref lp),some (V.int z),some (V.int c),some (V.int (((most:Nat):Int) - ((many (p ++ [top]):Nat):Int) - ((zA top + z7 p:Nat):Int))),o7]) em,pl6.add h2 hA .non _,ok.leaf (by
             rw [lA] at cc
             rcases cc with z | z
             · exact .inl (by omega)
             · exact .inr (by omega)),by omega⟩
         · refine zY ?_
           exact ⟨abs,ab,p,top,_,_,_,rfl,pl6,ok,by omega⟩
   · rintro σ H5 ⟨abs,ab,p,top,o5,o6,o7,rfl,pl,ok,lp1⟩
     generalize many (p ++ [top]) = MN
     try dsimp only
     refine run_seq ?_
     refine ⟨fun m σ H6 => ∃ (abs:List (Addr × Addr)) (ab:Addr × Addr) (p:List Shp.E) (top:Shp.E) (o7:Option V),m = p.length /\ σ = [some (.ref a),some (.str kind),some (.int most),some (.ref lp),some (nV MN),o5,o6,o7] /\ PlAt H H6 lp abs ab p top /\ Pok kind most p top,⟨_,abs,ab,p,top,o7,rfl,rfl,pl,ok⟩,?_⟩
     clear pl ok lp1
     rintro m σ H6 ⟨abs,ab,p,top,o7,rfl,rfl,pl6,ok⟩
     have lE := pl6.ens.len
     have hsm := Pok.small ok
     refine ⟨_,rfl,lp,_,rfl,.inl (SqL.of pl6.lst),_,_,rfl,rfl,_,rfl,?_⟩
     rw [List.length_map,List.length_append]
     by_cases c1:1 <= p.length
     · rw [decide_eq_true (show (1:Int) < ((abs.length + [ab].length:Nat):Int) by have:[ab].length = 1 := rfl; omega)]
       refine iteT ⟨_,fun _ _ y => y,?_⟩
       obtain ⟨p',e,rfl⟩ := Xj c1
       obtain ⟨abs',ab',rfl,pl7,en7⟩ := pl6.pop
       refine ⟨_,rfl,.inl ⟨rfl,_,SqL.of pl6.lst⟩,lp,_,.ref ab.1,rfl,rfl,pl6.lst,(by simp [rf]),?_⟩
       generalize upd H6 lp (.lst ((abs' ++ [ab'] ++ [ab]).map rf).dropLast) = H7 at pl7 en7
       refine zF ?_
       try dsimp only
       obtain ⟨g1,us7,g2,gA⟩ := en7
       have l7 := gA.len
       obtain ⟨k1,ws,k2,kA⟩ := pl7.en
       have lk := kA.len
       have okc := ok.close
       have smc := Pok.small okc
       rw [List.length_append] at smc
       refine ⟨_,rfl,1,rfl,lp,_,_,_,rfl,rfl,SqL.of pl7.lst,pl7.last,ab'.1,_,_,_,rfl,rfl,SqL.of k1,rfl,.inl ⟨rfl,_,SqL.of k2⟩,_,rfl,ab.1,_,_,_,rfl,rfl,SqL.of g1,rfl,_,rfl,ab.1,_,_,_,rfl,rfl,SqL.of g1,rfl,by show 1 <= sizeLine; decide,fun l1 nl1 => ?_⟩
       have T1 := zf (o := .lst [V.non]) nl1
       have hl1:upd H7 l1 (.lst [V.non]) l1 = some (.lst [V.non]) := zc
       generalize upd H7 l1 (.lst [V.non]) = H8 at T1 hl1
       refine ⟨_,rfl,ab.1,_,_,_,rfl,rfl,SqL.of (T1 _ _ g1),rfl,ab.2,us7,rfl,.inl (SqL.of (T1 _ _ g2)),_,_,rfl,rfl,l1,_,_,rfl,rfl,hl1,by omega,by omega,by show 1 * ((2:Int) - ((us7.length:Nat):Int)).toNat <= sizeLine; exact Nat.le_trans (show _ <= 1000 by omega) (by decide),fun l2 nl2 => ?_⟩
       rw [XL,show ((2:Int) - ((us7.length:Nat):Int)).toNat = zA top by unfold zA; omega]
       have T2 := zf (o := .lst (List.replicate (zA top) V.non)) nl2
       have hl2:upd H8 l2 (.lst (List.replicate (zA top) V.non)) l2 = some (.lst (List.replicate (zA top) V.non)) := zc
       have T12 := T1.trans T2
       generalize upd H8 l2 (.lst (List.replicate (zA top) V.non)) = H9 at T2 hl2 T12
       refine ⟨ab.2,l2,us7,_,rfl,rfl,T12 _ _ g2,hl2,by rw [List.length_replicate]; unfold zA; exact Nat.le_trans (show _ <= 1000 by omega) (by decide),fun l3 nl3 => ?_⟩
       have T3 := zf (o := .lst (us7 ++ List.replicate (zA top) V.non)) nl3
       have hl3:upd H9 l3 (.lst (us7 ++ List.replicate (zA top) V.non)) l3 = some (.lst (us7 ++ List.replicate (zA top) V.non)) := zc
       have T13 := T12.trans T3
       generalize upd H9 l3 (.lst (us7 ++ List.replicate (zA top) V.non)) = H10 at T3 hl3 T13
       refine ⟨l3,_,rfl,.inl ⟨SqL.of hl3,fun t1 nt1 => ⟨by show 2 <= sizeLine; decide,fun t2 nt2 => ?_⟩⟩⟩
       have T4 := zf (o := .tup (us7 ++ List.replicate (zA top) V.non)) nt1
       have ht1:upd H10 t1 (.tup (us7 ++ List.replicate (zA top) V.non)) t1 = some (.tup (us7 ++ List.replicate (zA top) V.non)) := zc
       have T14 := T13.trans T4
       generalize upd H10 t1 (.tup (us7 ++ List.replicate (zA top) V.non)) = H11 at T4 ht1 T14 nt2
       have T5 := zf (o := .tup [.str top.k,.ref t1]) nt2
       have ht2:upd H11 t2 (.tup [.str top.k,.ref t1]) t2 = some (.tup [.str top.k,.ref t1]) := zc
       have TT := T14.trans T5
       generalize upd H11 t2 (.tup [.str top.k,.ref t1]) = H12 at T5 ht2 TT
       have hv:At H12 (.ref t2) (full top) := .tup ht2 (.cons (.str _) (.cons (.tup (T5 _ _ ht1) ((gA.same TT).app (AtL.nons _))) .nil))
       refine ⟨ab'.2,_,_,rfl,rfl,TT _ _ k2,Nat.lt_of_le_of_lt (show ws.length <= 1000 by omega) (by decide),?_⟩
       exact ⟨_,by rw [List.length_append]; exact Nat.lt_succ_self _,abs',ab',p',⟨e.k,e.ps ++ [full top],e.ms ++ [yI top]⟩,some (.ref ab.1),rfl,rfl,(pl7.alloc TT).add (TT _ _ k2) (kA.same TT) hv _,okc⟩
     · rw [decide_eq_false (show ¬ (1:Int) < ((abs.length + [ab].length:Nat):Int) by have:[ab].length = 1 := rfl; omega)]
       refine iteF ?_
       have ep:p = [] := List.length_eq_zero_iff.mp (by omega)
       have ea:abs = [] := List.length_eq_zero_iff.mp (by omega)
       subst ep ea
       obtain ⟨ek,sh,le⟩ := ok.done
       obtain ⟨g1,us7,g2,gA⟩ := pl6.en
       have l7 := gA.len
       refine ⟨_,rfl,_,rfl,lp,_,_,_,rfl,rfl,SqL.of pl6.lst,rfl,ab.1,_,_,_,rfl,rfl,SqL.of g1,rfl,by show 1 <= sizeLine; decide,fun l1 nl1 => ?_⟩
       have T1 := zf (o := .lst [V.non]) nl1
       have hl1:upd H6 l1 (.lst [V.non]) l1 = some (.lst [V.non]) := zc
       generalize upd H6 l1 (.lst [V.non]) = H8 at T1 hl1
       refine ⟨_,rfl,lp,_,_,_,rfl,rfl,SqL.of (T1 _ _ pl6.lst),rfl,ab.1,_,_,_,rfl,rfl,SqL.of (T1 _ _ g1),rfl,ab.2,us7,rfl,.inl (SqL.of (T1 _ _ g2)),_,_,rfl,rfl,l1,_,_,rfl,rfl,hl1,by omega,by omega,by show 1 * ((2:Int) - ((us7.length:Nat):Int)).toNat <= sizeLine; exact Nat.le_trans (show _ <= 1000 by omega) (by decide),fun l2 nl2 => ?_⟩
       rw [XL,show ((2:Int) - ((us7.length:Nat):Int)).toNat = zA top by unfold zA; omega]
       have T2 := zf (o := .lst (List.replicate (zA top) V.non)) nl2
       have hl2:upd H8 l2 (.lst (List.replicate (zA top) V.non)) l2 = some (.lst (List.replicate (zA top) V.non)) := zc
       have T12 := T1.trans T2
       generalize upd H8 l2 (.lst (List.replicate (zA top) V.non)) = H9 at T2 hl2 T12
       refine ⟨ab.2,l2,us7,_,rfl,rfl,T12 _ _ g2,hl2,by rw [List.length_replicate]; unfold zA; exact Nat.le_trans (show _ <= 1000 by omega) (by decide),fun l3 nl3 => ?_⟩
       have T3 := zf (o := .lst (us7 ++ List.replicate (zA top) V.non)) nl3
       have hl3:upd H9 l3 (.lst (us7 ++ List.replicate (zA top) V.non)) l3 = some (.lst (us7 ++ List.replicate (zA top) V.non)) := zc
       have T13 := T12.trans T3
       generalize upd H9 l3 (.lst (us7 ++ List.replicate (zA top) V.non)) = H10 at T3 hl3 T13
       refine ⟨l3,_,rfl,.inl ⟨SqL.of hl3,fun t1 nt1 => ⟨by show 2 <= sizeLine; decide,fun t2 nt2 => ?_⟩⟩⟩
       have T4 := zf (o := .tup (us7 ++ List.replicate (zA top) V.non)) nt1
       have ht1:upd H10 t1 (.tup (us7 ++ List.replicate (zA top) V.non)) t1 = some (.tup (us7 ++ List.replicate (zA top) V.non)) := zc
       have T14 := T13.trans T4
       generalize upd H10 t1 (.tup (us7 ++ List.replicate (zA top) V.non)) = H11 at T4 ht1 T14 nt2
       have T5 := zf (o := .tup [.str kind,.ref t1]) nt2
       have ht2:upd H11 t2 (.tup [.str kind,.ref t1]) t2 = some (.tup [.str kind,.ref t1]) := zc
       have TT := T14.trans T5
       generalize upd H11 t2 (.tup [.str kind,.ref t1]) = H12 at T5 ht2 TT
       have hv:At H12 (.ref t2) (full top) := by
         rw [<- ek] at ht2
         exact .tup ht2 (.cons (.str _) (.cons (.tup (T5 _ _ ht1) ((gA.same TT).app (AtL.nons _))) .nil))
       exact q (.ref t2) (full top) (yI top) _ (pl6.same.trans TT) hv sh le
end
end JI
namespace JI
open PySem L2 Lin Tre PySem.W
open Shp (Sh ShL Cn CnL)
abbrev xM:Stmt := top 69
abbrev xN:Stmt := top 70
theorem zaF (g:List Nat):(g.map fun n:Nat => (n:Int)).map V.int = g.map nV := by rw [List.map_map]; rfl
theorem sum_nat:∀ g:List Nat,(g.map fun n:Nat => (n:Int)).sum = ((g.sum:Nat):Int)
 | [] => rfl
 | a :: r => by rw [List.map_cons,List.sum_cons,sum_nat r,List.sum_cons]; omega
def yF (d:Addr) (H H':Hp):Prop := ∀ p o,p ≠ d -> H p = some o -> H' p = some o
theorem yF.refl (d:Addr) (H:Hp):yF d H H := fun _ _ _ e => e
theorem yF.of {d:Addr} {H H':Hp} (S:Same H H'):yF d H H' := fun p o _ e => S p o e
theorem yF.trans {d:Addr} {H H' H2:Hp} (a:yF d H H') (b:yF d H' H2):yF d H H2 := fun p o n e => b p o n (a p o n e)
theorem Qo {d:Addr} {H:Hp} {o:HO}:yF d H (upd H d o) := fun p u n e => by rw [zp n]; exact e
theorem yF.all {d:Addr} {H0 H H':Hp} (n:H0 d = none) (S:Same H0 H) (x:yF d H H'):Same H0 H' := fun p o e => x p o (zI e n) (S p o e)
section
variable {d:Addr} {H H':Hp} {us us':List V}
mutual
theorem At.x (hd:H d = some (.lst us)) (hd':H' d = some (.lst us')) (S:yF d H H'):∀ {v:V} {t:T},At H v t -> At H' v t
 | _,_,.non => .non
 | _,_,.bl b => .bl b
 | _,_,.int i => .int i
 | _,_,.str x => .str x
 | _,_,.tup e h => .tup (S _ _ (y9 e hd (by intro z; cases z)) e) (AtL.x hd hd' S h)
 | _,_,.lst (a := a) e => by
   by_cases z:a = d
   · rw [z]; exact .lst hd'
   · exact .lst (S _ _ z e)
 | _,_,.dic e => .dic (S _ _ (y9 e hd (by intro z; cases z)) e)
theorem AtL.x (hd:H d = some (.lst us)) (hd':H' d = some (.lst us')) (S:yF d H H'):∀ {vs:List V} {ts:List T},AtL H vs ts -> AtL H' vs ts
 | _,_,.nil => .nil
 | _,_,.cons h r => .cons (At.x hd hd' S h) (AtL.x hd hd' S r)
end
end
def xH (d:Nat):Sp := fun vs H Q _ => ∃ (x:V) (t:T) (m:Nat),vs = [x] /\ At H x t /\ Cn t m /\ sz t + 3 <= 4 * d /\ d <= 24 /\ ∀ H',Same H H' -> Q (nV m) H'
def jd (d:Nat):Sp := fun vs H Q _ => ∃ (x:V) (t:T) (m:Nat) (l:Addr) (ns:List Int),vs = [x,.ref l] /\ At H x t /\ Sh t m /\ H l = some (.lst (ns.map V.int)) /\ m <= ns.length /\ ns.length <= 1000 /\ sz t + 3 <= 4 * d /\ d <= 24 /\
 ∀ (v:V) (t':T) (H':Hp),yF l H H' -> H' l = some (.lst ((ns.drop m).map V.int)) -> At H' v t' -> Good t' (ns.take m) -> (∀ k,HasK t' k -> HasK t k) -> Q v H'
section
variable {P:Program} {w:World} {K:PySem.W.Frag} {mg:Str -> Option Value} {base:Heap} {kA:Addr}
theorem XM:zu ["shape"] ["shape"] (ze xM) := ⟨rfl,rfl,rfl,by decide +kernel,rfl,by decide +kernel,by decide +kernel⟩
theorem Qp {f:Addr} {fd:FuncData} (F:Fun K "_law_count" "_law_count" xM f fd):FnOk P w K mg base CX0 1 f fd ["shape"] (xH 0) := by
 refine F.ok XM (fun vs H Q E h => ?_) (fun cdv A outer s H vs Q E hr h => ?_)
 · obtain ⟨x,t,m,rfl,_⟩ := h
   rfl
 · obtain ⟨x,t,m,rfl,_,_,hz,_⟩ := h
   omega
theorem Qq {f:Addr} {fd:FuncData} {d:Nat} (F:Fun K "_law_count" "_law_count" xM f fd) (Z:Nt K mg kA) (tsum:mg "sum" = none) (Co:Callee P w K mg base CX0 (d + 1) "_law_count" f fd ["shape"] (xH d)):FnOk P w K mg base CX0 (d + 2) f fd ["shape"] (xH (d + 1)) := by
 obtain ⟨gKIND,gPARTS,gMOST_BOXES,gKINDS,kk,ti,tint,tbool,tstr,ttup,tlist,tl,tany,ts,tr,kI,kB,kS,kT⟩ := Z
 refine F.ok XM (fun vs H Q E h => ?_) (fun cdv A outer s H vs Q E hr h => ?_)
 · obtain ⟨x,t,m,rfl,_⟩ := h
   rfl
 · obtain ⟨x,t,m,rfl,hA,hC,hz,hd,q⟩ := h
   refine ⟨_,(zd (zO (PW.pt (yH (zC jF (pv 0) y0 rfl) (yR (yl (zi yh (by rfl) ti PyProof.Rows.boot_isinstance (za (pv 0) (za (yw rfl tint PyProof.Rows.boot_int) zb)))))))
     (zg (zn zh))
     zH)
     (zg (zn (zi (WW rfl) (by rfl) tsum PyProof.Rows.boot_sum (za (z9 (Nc := ["part"]) (ix := [none]) rfl rfl (by exact (wn (zk zN (pv 0) zh (fun _ _ => rfl)))) (fun _ _ _ _ _ => (zr (i := 0) (by show (["part"]:List Str).Nodup; decide +kernel) rfl (Or.inl rfl))) (fun _ _ _ _ _ => zX) (fun _ _ _ _ _ => (zj Co.ok hr rfl Co.bound Co.kp Co.bd .nil zB (za (pv 0) zb)))) zb))))),?_⟩
   cases hC with
   | non =>
     cases hA
     exact ⟨_,rfl,rfl,_,rfl,iteT (iteT (q H (Same.refl _)))⟩
   | int i =>
     cases hA
     exact ⟨_,rfl,rfl,_,rfl,iteF ⟨_,rfl,_,_,_,_,rfl,rfl,(At.int (H := H) i).ty,kI (.int i),_,rfl,iteT (q H (Same.refl _))⟩⟩
   | @node k ps ms h2 hL2 =>
     have hty := hA.ty (K := K)
     cases hA with
     | @tup a0 vs0 ss e hL =>
     obtain ⟨b0,ws,rfl,e2,hQ⟩ := hL.knot
     have lq := hQ.len
     have lM := hL2.len
     have nsz := xq k ps
     have lps := xV ps
     refine ⟨_,rfl,rfl,_,rfl,iteF ⟨_,rfl,_,_,_,_,rfl,rfl,hty,kI _,_,rfl,iteF ?_⟩⟩
     refine zY ?_
     dsimp only
     refine ⟨_,rfl,_,_,_,_,rfl,rfl,SqT.of e,rfl,b0,rfl,⟨_,SqT.of e2⟩,xR (K := K) (a := b0) (xs := ws) (fun i ys σ H' => ys = (ms.take i).map nV /\ Same H H' /\ ∃ o,σ = [o]) ⟨rfl,Same.refl _,none,rfl⟩
       (fun i ys σ H' hi ⟨e3,S3,_⟩ => ⟨by rw [e3,List.length_map,List.length_take]; exact Nat.le_trans (show _ <= 1000000 by omega) (by decide),SqT.of (S3 _ _ e2)⟩) ?_ ?_⟩
     case refine_2 =>
       rintro i y ys σ H1 hy ⟨rfl,S1,o,rfl⟩
       obtain ⟨pt,ep,hAp⟩ := hQ.get hy
       obtain ⟨mi,em,hCi⟩ := hL2.get ep
       have two := qD h2 (List.mem_of_getElem? ep)
       dsimp only [z6,tYes]
       refine iteT ⟨_,rfl,y,pt,mi,rfl,hAp.same S1,hCi,by omega,by omega,fun H2 S2 => ⟨?_,S1.trans S2,_,rfl⟩⟩
       rw [List.take_add_one,em,List.map_append]
       rfl
     rintro ys σ H1 ⟨rfl,S1,_⟩ la nl
     rw [lq,<- lM,List.take_length]
     have hla:upd H1 la (.lst (ms.map nV)) la = some (.lst ((ms.map fun n:Nat => (n:Int)).map V.int)) := by rw [zc,zaF]
     have S2 := S1.trans (zf (o := .lst (ms.map nV)) nl)
     generalize upd H1 la (.lst (ms.map nV)) = H2 at hla S2
     refine ⟨la,_,rfl,SqL.of hla,?_⟩
     rw [sum_nat]
     exact q H2 S2
theorem Xk {f:Addr} {fd:FuncData} (F:Fun K "_law_count" "_law_count" xM f fd) (Z:Nt K mg kA) (tsum:mg "sum" = none) (bo:mg "_law_count" = some (.ref f)) (kp:PySem.W.keepIn K (.ref f) = true) (bd:Binds K fd ["shape"] []):∀ d,FnOk P w K mg base CX0 (d + 1) f fd ["shape"] (xH d)
 | 0 => Qp F
 | d + 1 => Qq F Z tsum ⟨Xk F Z tsum bo kp bd d,bo,kp,bd⟩
theorem JM:zu ["shape","left"] ["shape","left"] (ze xN) := ⟨rfl,rfl,rfl,by decide +kernel,rfl,by decide +kernel,by decide +kernel⟩
theorem zaG {f:Addr} {fd:FuncData} (F:Fun K "_law_numbered" "_law_numbered" xN f fd):FnOk P w K mg base CX0 1 f fd ["shape","left"] (jd 0) := by
 refine F.ok JM (fun vs H Q E h => ?_) (fun cdv A outer s H vs Q E hr h => ?_)
 · obtain ⟨x,t,m,l,ns,rfl,_⟩ := h
   rfl
 · obtain ⟨x,t,m,l,ns,rfl,_,_,_,_,_,hz,_⟩ := h
   omega
theorem zaH {f:Addr} {fd:FuncData} {d:Nat} (F:Fun K "_law_numbered" "_law_numbered" xN f fd) (ttup:mg "tuple" = none) (Nu:Callee P w K mg base CX0 (d + 1) "_law_numbered" f fd ["shape","left"] (jd d)):FnOk P w K mg base CX0 (d + 2) f fd ["shape","left"] (jd (d + 1)) := by
 refine F.ok JM (fun vs H Q E h => ?_) (fun cdv A outer s H vs Q E hr h => ?_)
 · obtain ⟨x,t,m,l,ns,rfl,_⟩ := h
   rfl
 · obtain ⟨x,t,m,l,ns,rfl,hA,hS,hl,hm,hn,hz,hd,q⟩ := h
   refine ⟨_,(zd (zO (zC jF (pv 0) y0 rfl)
     (zg (zn (yz PySem.F.plainAttrs_list PySem.F.slot_list_pop PySem.F.type_list_pop Yp (pv 1) (za zh zb))))
     zH)
     (zg (zn (yK (za (zk zN (pv 0) zh (fun _ _ => rfl)) (za (yN xk rfl ttup PyProof.Rows.boot_tuple (za (z9 (Nc := ["part","left"]) (ix := [none,some 1]) rfl rfl (by exact (wn (zk zN (pv 0) zh (fun _ _ => rfl)))) (fun _ _ _ _ _ => (zr (i := 0) (by show (["part","left"]:List Str).Nodup; decide +kernel) rfl (Or.inl rfl))) (fun _ _ _ _ _ => zX) (fun _ _ _ _ _ => (zj Nu.ok hr rfl Nu.bound Nu.kp Nu.bd .nil zB (za (pv 0) (za (pv 1) zb))))) zb)) zb)))))),?_⟩
   cases hS with
   | leaf =>
     cases hA
     obtain ⟨i,r,rfl⟩ : ∃ i r,ns = i :: r := by
       cases ns with
       | nil => exact absurd hm (by decide)
       | cons i r => exact ⟨i,r,rfl⟩
     refine ⟨_,rfl,rfl,_,rfl,iteT ?_⟩
     refine ⟨_,rfl,.inl ⟨rfl,_,SqL.of hl⟩,l,_,0,0,.int i,rfl,rfl,hl,by decide,by decide,?_,rfl,?_⟩
     · exact PySem.StrLaws.seqIndex_nonneg (Int.le_refl _) (by rw [List.length_map,List.length_cons]; omega)
     · exact q (.int i) (.int i) _ Qo (by rw [zc]; rfl) (.int i) (.leaf i) fun k ⟨_,e⟩ => by cases e
   | @node k ps ms hk h2 hn2 hL2 =>
     cases hA with
     | @tup a0 vs0 ss e hL =>
     obtain ⟨b0,ws,rfl,e2,hQ⟩ := hL.knot
     have lq := hQ.len
     have lM := hL2.len
     have nsz := xq k ps
     have lps := xV ps
     have nb0:b0 ≠ l := y9 e2 hl (by intro z; cases z)
     have na0:a0 ≠ l := y9 e hl (by intro z; cases z)
     refine ⟨_,rfl,rfl,_,rfl,iteF ?_⟩
     refine zY ?_
     dsimp only
     refine ⟨_,rfl,_,_,_,_,rfl,rfl,SqT.of e,rfl,_,rfl,_,_,_,_,rfl,rfl,SqT.of e,rfl,b0,rfl,⟨_,SqT.of e2⟩,xR (K := K) (a := b0) (xs := ws) (fun i ys σ H' => (∃ o,σ = [o,some (.ref l)]) /\ yF l H H' /\ H' l = some (.lst ((ns.drop (ms.take i).sum).map V.int)) /\ ∃ (ts':List T) (nss:List (List Int)),AtL H' ys ts' /\ zG ts' nss /\ nss.flatten = ns.take (ms.take i).sum /\ ts'.length = i /\ ∀ (j:Nat) (t':T),ts'[j]? = some t' -> ∃ t0 ∈ ps,∀ k,HasK t' k -> HasK t0 k)
         ⟨⟨none,rfl⟩,yF.refl _ _,hl,[],[],.nil,.nil,rfl,rfl,fun j t' e => by simp at e⟩
       (fun i ys σ H' hi ⟨_,S3,_,ts',nss,hY,_,_,l3,_⟩ => ⟨by rw [hY.len,l3]; exact Nat.le_trans (show _ <= 1000000 by omega) (by decide),SqT.of (S3 _ _ nb0 e2)⟩) ?_ ?_⟩
     case refine_2 =>
       rintro i y ys σ H1 hy ⟨⟨o,rfl⟩,S1,hl1,ts',nss,hY,hG,hf,l3,hK⟩
       obtain ⟨pt,ep,hAp⟩ := hQ.get hy
       obtain ⟨mi,em,hSi⟩ := hL2.get ep
       have two := qD h2 (List.mem_of_getElem? ep)
       have et := Shp.Jk em
       have sle := Shp.Xs ms (i + 1)
       dsimp only [z6,tYes]
       refine iteT ⟨_,rfl,_,rfl,y,pt,mi,l,ns.drop (ms.take i).sum,rfl,hAp.x hl hl1 S1,hSi,hl1,by rw [List.length_drop]; omega,by rw [List.length_drop]; omega,by omega,by omega,fun v t' H2 S2 hl2 hv gv kv => ⟨⟨_,rfl⟩,S1.trans S2,?_,ts' ++ [t'],nss ++ [(ns.drop (ms.take i).sum).take mi],?_,hG.app (.cons gv .nil),?_,by rw [List.length_append,l3]; rfl,fun j u hu => ?_⟩⟩
       · rw [hl2,List.drop_drop,et]
       · exact (hY.x hl1 hl2 S2).app (.cons hv .nil)
       · rw [List.flatten_append,hf,List.flatten_singleton,et,List.take_add]
       · by_cases hj:j < ts'.length
         · rw [List.getElem?_append_left hj] at hu
           exact hK j u hu
         · rw [List.getElem?_append_right (by omega)] at hu
           have:j - ts'.length = 0 := by
             cases h9:j - ts'.length with
             | zero => rfl
             | succ z => rw [h9] at hu; simp at hu
           rw [this] at hu
           injection hu with hu
           rw [<- hu]
           exact ⟨pt,List.mem_of_getElem? ep,kv⟩
     rintro ys σ H1 ⟨_,S1,hl1,ts',nss,hY,hG,hf,l3,hK⟩ la nl
     rw [lq,<- lM,List.take_length] at hl1 hf
     have T1 := zf (o := .lst ys) nl
     have hla:upd H1 la (.lst ys) la = some (.lst ys) := zc
     generalize upd H1 la (.lst ys) = H2 at T1 hla
     refine ⟨la,ys,rfl,.inl ⟨SqL.of hla,fun t1 nt1 => ⟨by show 2 <= sizeLine; decide,fun t2 nt2 => ?_⟩⟩⟩
     have T2 := zf (o := .tup ys) nt1
     have ht1:upd H2 t1 (.tup ys) t1 = some (.tup ys) := zc
     have T12 := T1.trans T2
     generalize upd H2 t1 (.tup ys) = H3 at T2 ht1 T12 nt2
     have T3 := zf (o := .tup [.str k,.ref t1]) nt2
     have ht2:upd H3 t2 (.tup [.str k,.ref t1]) t2 = some (.tup [.str k,.ref t1]) := zc
     have T13 := T12.trans T3
     generalize upd H3 t2 (.tup [.str k,.ref t1]) = H4 at T3 ht2 T13
     refine q (.ref t2) (.tup [.str k,.tup ts']) H4 (S1.trans (.of T13)) (T13 _ _ hl1) (.tup ht2 (.cons (.str _) (.cons (.tup (T3 _ _ ht1) (hY.same T13)) .nil))) ?_ (fun k2 ⟨z,e9⟩ => ?_)
     · rw [<- hf]
       refine .node hk (by omega) (fun t' ht' hk' => ?_) hG
       obtain ⟨j,hj,ej⟩ := List.mem_iff_getElem.mp ht'
       obtain ⟨t0,h0,hk0⟩ := hK j t' (by rw [List.getElem?_eq_getElem hj,ej])
       exact hn2 t0 h0 (hk0 k hk')
     · injection e9 with e9
       injection e9 with e9 _
       injection e9 with e9
       rw [e9]
       exact ⟨_,rfl⟩
theorem Qr {f:Addr} {fd:FuncData} (F:Fun K "_law_numbered" "_law_numbered" xN f fd) (ttup:mg "tuple" = none) (bo:mg "_law_numbered" = some (.ref f)) (kp:PySem.W.keepIn K (.ref f) = true) (bd:Binds K fd ["shape","left"] []):∀ d,FnOk P w K mg base CX0 (d + 1) f fd ["shape","left"] (jd d)
 | 0 => zaG F
 | d + 1 => zaH F ttup ⟨Qr F ttup bo kp bd d,bo,kp,bd⟩
end
end JI
namespace JI
open PySem L2 Lin Tre PySem.W
open Shp (Sh ShL Cn CnL)
def jZ:Sp := fun vs H Q _ => ∃ c k:Int,vs = [.int c,.int k] /\ -1000 <= k /\ k <= 1000 /\ ∀ n:Int,Q (.int n) H
def qH (K:PySem.W.Frag):Sp := fun vs H Q _ => ∃ (a:Addr) (ns:List Int) (k:Int),vs = [.ref a,.int k] /\ SqL K H a (ns.map V.int) /\ 0 <= k /\ k <= 1000 /\ ∀ n:Int,Q (.int n) H
section
variable {P:Program} {w:World} {K:PySem.W.Frag} {mg:Str -> Option Value} {base:Heap}
theorem Xl:zu ["cell","k","number"] ["cell","k"] (ze qR) := ⟨rfl,rfl,rfl,by decide +kernel,rfl,by decide +kernel,by decide +kernel⟩
theorem zaI {f:Addr} {fd:FuncData} (F:Fun K "_law_stir" "_law_stir" qR f fd):FnOk P w K mg base CX0 1 f fd ["cell","k"] jZ := by
 refine F.ok Xl (fun vs H Q E h => ?_) (fun cdv A outer s H vs Q E hr h => ?_)
 · obtain ⟨c,k,rfl,_⟩ := h
   rfl
 · obtain ⟨c,k,rfl,k1,k2,q⟩ := h
   refine ⟨_,zd (zx (i := 2) Xl.nd rfl (Or.inl rfl) (zw yr (zw wo (zw ya (zw ya (zw yr (pv 0) zh) (zw wo zh (pv 1))) zh) zh) zh))
     (zd (zx (i := 2) Xl.nd rfl (Or.inl rfl) (zw yr (zw wo (pv 2) (pv 2)) zh))
     (zg (zn (zw yr (zw wo (pv 2) zh) zh)))),?_⟩
   have m1 := Int.emod_nonneg c (show (2147483629:Int) ≠ 0 by decide)
   have m2 := Int.emod_lt_of_pos c (show (0:Int) < 2147483629 by decide)
   refine ⟨_,rfl,_,_,rfl,rfl,(by show (0:Int) < 2147483629; decide),_,rfl,_,_,rfl,rfl,.inl ⟨by decide,by decide⟩,_,_,rfl,rfl,_,_,rfl,rfl,_,_,rfl,rfl,.inl ⟨by omega,by omega⟩,_,_,rfl,rfl,(by show (0:Int) < 2147483647; decide),?_⟩
   generalize hA:(c % 2147483629 + 7919 * k + 1) * 48271 = a
   have a1 := Int.emod_nonneg a (show (2147483647:Int) ≠ 0 by decide)
   have a2 := Int.emod_lt_of_pos a (show (0:Int) < 2147483647 by decide)
   refine ⟨_,rfl,_,rfl,_,_,rfl,rfl,.inl ⟨by omega,by omega⟩,_,_,rfl,rfl,(by show (0:Int) < 2147483629; decide),?_⟩
   generalize a % 2147483647 * (a % 2147483647) = b
   have b1 := Int.emod_nonneg b (show (2147483629:Int) ≠ 0 by decide)
   have b2 := Int.emod_lt_of_pos b (show (0:Int) < 2147483629 by decide)
   exact ⟨_,rfl,_,_,rfl,rfl,.inl ⟨by omega,by omega⟩,_,_,rfl,rfl,(by show (0:Int) < 2147483563; decide),q _⟩
theorem zbE:zu ["script","k"] ["script","k"] (ze qS) := ⟨rfl,rfl,rfl,by decide +kernel,rfl,by decide +kernel,by decide +kernel⟩
theorem zaJ {f fS:Addr} {fd fdS:FuncData} (F:Fun K "_law_cell" "_law_cell" qS f fd) (tl:mg "len" = none) (S:Callee P w K mg base CX0 1 "_law_stir" fS fdS ["cell","k"] jZ):FnOk P w K mg base CX0 2 f fd ["script","k"] (qH K) := by
 refine F.ok zbE (fun vs H Q E h => ?_) (fun cdv A outer s H vs Q E hr h => ?_)
 · obtain ⟨a,ns,k,rfl,_⟩ := h
   rfl
 · obtain ⟨a,ns,k,rfl,hS,k1,k2,q⟩ := h
   refine ⟨_,zd (zO (zC xv (pv 1) (zi zm (by rfl) tl PySem.boot_len (za (pv 0) zb)) (zE _)) (zg (zn (zk zy (pv 0) (pv 1) (fun _ _ => rfl)))) zH)
     (zd (zO (zC xu (zi zm (by rfl) tl PySem.boot_len (za (pv 0) zb)) zh (zE _))
       (zg (zn (zj S.ok hr rfl S.bound S.kp S.bd .nil zB (za (zw wo (pv 1) (pv 1)) (za (pv 1) zb))))) zH)
     (zg (zn (zj S.ok hr rfl S.bound S.kp S.bd .nil zB (za (zk zy (pv 0) (zw yr (pv 1) (zi zm (by rfl) tl PySem.boot_len (za (pv 0) zb))) (fun _ _ => rfl)) (za (pv 1) zb)))))),?_⟩
   refine ⟨_,rfl,_,rfl,_,_,rfl,.inl hS,_,_,rfl,rfl,_,rfl,?_⟩
   rw [List.length_map]
   refine ite2 (fun c1 => ?_) (fun c1 => ?_)
   · have c1 := of_decide_eq_true c1
     exact ⟨_,rfl,_,rfl,_,_,_,_,rfl,rfl,hS,W2 k1 c1,q _⟩
   · have c1:¬ k < (ns.length:Int) := fun z => c1 (decide_eq_true z)
     refine ⟨_,rfl,_,_,rfl,.inl hS,rfl,_,rfl,?_⟩
     rw [List.length_map]
     refine ite2 (fun c2 => ?_) (fun c2 => ?_)
     · exact ⟨_,rfl,_,rfl,_,_,rfl,rfl,.inl ⟨by omega,by omega⟩,_,rfl,_,_,rfl,by omega,by omega,fun n => q n⟩
     · have c2:ns.length ≠ 0 := fun z => c2 (decide_eq_true (by rw [z]; rfl))
       have hp:(0:Int) < (ns.length:Int) := by omega
       have m1 := Int.emod_nonneg k (show (ns.length:Int) ≠ 0 by omega)
       have m2 := Int.emod_lt_of_pos k hp
       exact ⟨_,rfl,_,rfl,_,rfl,_,_,rfl,.inl hS,_,_,rfl,rfl,(by rw [List.length_map]; exact hp),_,_,_,_,rfl,rfl,hS,(by rw [List.length_map]; exact W2 m1 m2),_,rfl,_,_,rfl,by omega,by omega,fun n => q n⟩
end
def Wd (K:PySem.W.Frag):Sp := fun vs H Q _ => ∃ (a:Addr) (ns:List Int) (first most:Nat),vs = [.ref a,.int first,.int most] /\ SqL K H a (ns.map V.int) /\ ns.length <= 63 /\ first <= 100 /\ 2 <= most /\ most <= 24 /\ ∀ (v:V) (t:T) (n:List Int) (H':Hp),Same H H' -> At H' v t -> Good t n -> n.Perm (up n.length) -> n.length <= 24 -> Q v H'
section
variable {P:Program} {w:World} {K:PySem.W.Frag} {mg:Str -> Option Value} {base:Heap} {kA:Addr}
theorem wM:zu ["script","first","most","shape","left","order","k"] ["script","first","most"] (ze wD) := ⟨rfl,rfl,rfl,by decide +kernel,rfl,by decide +kernel,by decide +kernel⟩
theorem zbF {f fS fC fO fN:Addr} {fd dS dC dO dN:FuncData} (F:Fun K "_law_tree" "_law_tree" wD f fd) (tl:mg "len" = none) (tr:mg "range" = none) (tlist:mg "list" = none) (Sh:Callee P w K mg base CX0 2 "_law_shape" fS dS ["cells","kind","most"] Zn) (Ce:Callee P w K mg base CX0 2 "_law_cell" fC dC ["script","k"] (qH K))
   (Co:Callee P w K mg base CX0 25 "_law_count" fO dO ["shape"] (xH 24)) (Nu:Callee P w K mg base CX0 25 "_law_numbered" fN dN ["shape","left"] (jd 24)):FnOk P w K mg base CX0 26 f fd ["script","first","most"] (Wd K) := by
 refine F.ok wM (fun vs H Q E h => ?_) (fun cdv A outer s H vs Q E hr h => ?_)
 · obtain ⟨a,ns,first,most,rfl,_⟩ := h
   rfl
 · obtain ⟨a,ns,first,most,rfl,hS,h63,hf,m2,m24,q⟩ := h
   refine ⟨_,(zd (zx (i := 3) wM.nd rfl (Or.inl rfl) (zj Sh.ok (hr.mono (show 2 <= 25 by decide)) rfl Sh.bound Sh.kp Sh.bd .nil zB (za (yG xP (pv 0) (yL (pv 1)) (yL zh)) (za (zk qJ yd (zw yr (zj Ce.ok (hr.mono (show 2 <= 25 by decide)) rfl Ce.bound Ce.kp Ce.bd .nil zB (za (pv 0) (za zh zb))) zh) (fun _ _ => rfl)) (za (pv 2) zb)))))
     (zd (zx (i := 4) wM.nd rfl (Or.inl rfl) (qC rfl rfl tlist rfl tr (za (zj Co.ok (hr.mono (show 25 <= 25 by decide)) rfl Co.bound Co.kp Co.bd .nil zB (za (pv 3) zb)) zb)))
     (zd (zx (i := 5) wM.nd rfl (Or.inl rfl) (zV zb))
     (zd (yq PassesOwn.never rfl (yM rfl tr (za (zi zm (by rfl) tl PySem.boot_len (za (pv 4) zb)) zb)) (zr (i := 6) wM.nd rfl (Or.inl rfl))
     (zg (z8 (yz PySem.F.plainAttrs_list PySem.F.slot_list_append PySem.F.type_list_append ym (pv 5) (za (yz PySem.F.plainAttrs_list PySem.F.slot_list_pop PySem.F.type_list_pop Yp (pv 4) (za (zw yr (zw j5 (zj Ce.ok (hr.mono (show 2 <= 25 by decide)) rfl Ce.bound Ce.kp Ce.bd .nil zB (za (pv 0) (za (zw ya (pv 1) (pv 6)) zb))) zh) (zi zm (by rfl) tl PySem.boot_len (za (pv 4) zb))) zb)) zb)))))
     (zg (zn (zj Nu.ok (hr.mono (show 25 <= 25 by decide)) rfl Nu.bound Nu.kp Nu.bd .nil zB (za (pv 3) (za (pv 5) zb))))))))),?_⟩
   refine ⟨_,rfl,_,rfl,_,rfl,_,rfl,a,_,rfl,hS,fun lc nlc => ?_⟩
   have lcut := wj (ns.map V.int) (some ((first:Nat):Int)) (some 63)
   obtain ⟨cells,hcut⟩ := Jb ns (some ((first:Nat):Int)) (some 63)
   dsimp only
   rw [hcut]
   rw [hcut,List.length_map,List.length_map] at lcut
   have S1 := zf (o := .lst (cells.map V.int)) nlc
   have hlc:(upd H lc (.lst (cells.map V.int))) lc = some (.lst (cells.map V.int)) := zc
   generalize upd H lc (.lst (cells.map V.int)) = H1 at S1 hlc
   refine ⟨_,rfl,a,ns,0,rfl,S1.seq hS,by decide,by decide,fun c0 => ?_⟩
   obtain ⟨ch,hch,hkk⟩ := W9 c0
   refine ⟨_,_,rfl,rfl,(show (0:Int) < 2 by decide),[124,45],_,ch,congrArg V.str XD,rfl,by decide,hch,_,rfl,lc,cells,_,most,rfl,hlc,by omega,hkk,m2,m24,fun x t m H2 S2 hA hSh hm => ?_⟩
   refine zF ?_
   try dsimp only
   have S02 := S1.trans S2
   have szt := hSh.szN
   refine ⟨_,rfl,x,t,m,rfl,hA,hSh.cn,by omega,by decide,fun H3 S3 => ⟨m,rfl,by omega,fun ll nll => ?_⟩⟩
   have S03 := S02.trans S3
   have S4 := zf (o := .lst ((List.range m).map fun i:Nat => V.int i)) nll
   have h1:(upd H3 ll (.lst ((List.range m).map fun i:Nat => V.int i))) ll = some (.lst ((up m).map V.int)) := by
     rw [zc]
     unfold up
     rw [List.map_map]
     rfl
   have fll := S03.free nll
   have S34 := S3.trans S4
   have S04 := S03.trans S4
   generalize upd H3 ll (.lst ((List.range m).map fun i:Nat => V.int i)) = H4 at S4 h1 S34 S04
   refine zF ?_
   try dsimp only
   refine qK ⟨by show 0 <= sizeLine; decide,fun li nli => ?_⟩
   have fli := S04.free nli
   have S5 := zf (o := .lst []) nli
   have h2:(upd H4 li (.lst [])) li = some (.lst []) := zc
   have nn:ll ≠ li := zI h1 nli
   have h1 := S5 _ _ h1
   have S05 := S04.trans S5
   have hA5 := (hA.same S34).same S5
   generalize upd H4 li (.lst []) = H5 at S5 h2 h1 S05 hA5
   refine run_seq (t := _) ?_
   refine ⟨_,rfl,ll,_,rfl,.inl (SqL.of h1),_,rfl,by rw [List.length_map,wI]; omega,by rw [List.length_map,wI]; omega,?_⟩
   rw [show ((((up m).map V.int).length:Nat):Int).toNat = m by rw [List.length_map,wI]; rfl]
   refine xp (lo := 0) (n := m) (fun i σ H6 => ∃ (us ls:List Int) (o:Option V),σ = [some (.ref a),some (.int first),some (.int most),some x,some (.ref ll),some (.ref li),o] /\ Same H H6 /\ At H6 x t /\ H6 ll = some (.lst (ls.map V.int)) /\ H6 li = some (.lst (us.map V.int)) /\ (us ++ ls).Perm (up m) /\ us.length = i)
     ⟨[],_,none,rfl,S05,hA5,h1,h2,.refl _,rfl⟩ ?_ ?_
   · rintro i σ H6 hi ⟨us,ls,o,rfl,S6,hA6,hll,hli,pm,lu⟩
     refine zF ?_
     rw [show (0:Int) + (i:Int) = (i:Int) from Int.zero_add _]
     try dsimp only
     have ln := pm.length_eq
     rw [List.length_append,wI] at ln
     have l0:0 < ls.length := by omega
     refine ⟨_,rfl,.inl ⟨rfl,_,SqL.of hli⟩,_,rfl,.inl ⟨rfl,_,SqL.of hll⟩,_,rfl,_,rfl,_,rfl,_,_,rfl,rfl,a,ns,_,rfl,S6.seq hS,by omega,by omega,fun c => ?_⟩
     have b0 := Int.emod_nonneg (c / 4) (show (ls.length:Int) ≠ 0 by omega)
     have b1 := Int.emod_lt_of_pos (c / 4) (show (0:Int) < ls.length by omega)
     obtain ⟨k,hk⟩ := Int.eq_ofNat_of_zero_le b0
     have kl:k < ls.length := by omega
     refine ⟨_,_,rfl,rfl,(show CDiv c 4 from ⟨by decide,by decide⟩),_,rfl,_,_,rfl,.inl (SqL.of hll),_,_,rfl,rfl,by rw [List.length_map]; omega,?_⟩
     have hk':(c / 4) % (((ls.map V.int).length:Nat):Int) = k := by rw [List.length_map]; exact hk
     refine ⟨ll,ls.map V.int,k,k,.int ls[k],rfl,congrArg (fun z => [V.int z]) hk',hll,by omega,by omega,?_,by rw [List.getElem?_map,List.getElem?_eq_getElem kl]; rfl,?_⟩
     · rw [List.length_map]
       have z := PySem.StrLaws.seqIndex_nonneg (i := (k:Int)) (n := ls.length) (by omega) (by omega)
       exact z
     · have S7:Same H (upd H6 ll (.lst ((ls.map V.int).eraseIdx k))) := zW S6 fll
       have k1:(upd H6 ll (.lst ((ls.map V.int).eraseIdx k))) ll = some (.lst ((ls.eraseIdx k).map V.int)) := by rw [zc,ZV]
       have k2:(upd H6 ll (.lst ((ls.map V.int).eraseIdx k))) li = some (.lst (us.map V.int)) := by rw [zp nn.symm]; exact hli
       have k3 := hA6.updL (ys := (ls.map V.int).eraseIdx k) hll
       generalize upd H6 ll (.lst ((ls.map V.int).eraseIdx k)) = H7 at S7 k1 k2 k3
       refine ⟨li,_,_,rfl,rfl,k2,by rw [List.length_map]; exact Nat.lt_of_le_of_lt (show _ <= 24 by omega) (by decide),?_⟩
       refine ⟨us ++ [ls[k]],ls.eraseIdx k,_,rfl,zW S7 fli,k3.updL k2,by rw [zp nn]; exact k1,by rw [zc,List.map_append]; rfl,?_,by rw [List.length_append,lu]; rfl⟩
       rw [List.append_assoc]
       exact ((jT kl).append_left us).trans pm
   · rintro σ H6 ⟨us,ls,o,rfl,S6,hA6,hll,hli,pm,lu⟩
     have ln := pm.length_eq
     rw [List.length_append,wI] at ln
     have el:ls = [] := List.eq_nil_of_length_eq_zero (by omega)
     rw [el,List.append_nil] at pm
     have tk:us.take m = us := by rw [<- lu,List.take_length]
     refine ⟨_,rfl,_,rfl,x,t,m,li,us,rfl,hA6,hSh,hli,by omega,by omega,by omega,by decide,fun v t' H7 S7 hl7 hv gv _ => ?_⟩
     rw [tk] at gv
     exact q v t' us H7 (yF.all fli S6 S7) hv gv (by rw [lu]; exact pm) (by omega)
end
end JI
namespace JI
open PySem L2 Lin Tre PySem.W
def yp:List Nat := [33,34,35,36,38,39,40,41,42,43,44,45,46,47,48,49,50,51,52,53,54,55,56,57,58,59,60,61,62,63,64,65,66,67,68,69,70,71,72,73,74,75,76,77,78,79,80,81,82,83,84,85,86,87,88,89,90,91,92,93,94,95,96,97,98,99,100,101,102,103,104,105,106,107,108,109,110,111,112,113,114,115,116,117,118,119,120,121,122,123,124,125,126]
theorem ji:yp.length = 93 := rfl
theorem Xm:∀ c ∈ yp,good c := by
 intro c hc
 have:(yp.all fun c => decide (33 <= c) && (decide (c <= 126) && decide (c ≠ 37))) = true := by decide +kernel
 have := List.all_eq_true.mp this c hc
 simp only [Bool.and_eq_true,decide_eq_true_eq] at this
 exact this
def Xn:Sp := fun vs H Q _ => ∃ cell:Int,vs = [.int cell] /\ ∀ u:W,okW u -> Q (.str (txt u)) H
def Xo (K:PySem.W.Frag):Sp := fun vs H Q _ => ∃ (a:Addr) (ns:List Int) (N:Nat),vs = [.ref a,.int N] /\ SqL K H a (ns.map V.int) /\ N <= 24 /\ ∀ (l:Addr) (us:List V) (wss:List (List W)) (H':Hp),Same H H' -> H l = none -> H' l = some (.lst us) -> Txs H' us wss -> wss.length = N -> (∀ v ∈ us,∃ b,v = .ref b /\ H b = none) -> Q (.ref l) H'
section
variable {P:Program} {w:World} {K:PySem.W.Frag} {mg:Str -> Option Value} {base:Heap} {kA:Addr}
theorem x9:zu ["cell","some","word","left","k"] ["cell"] (ze sLw) := ⟨rfl,rfl,rfl,by decide +kernel,rfl,by decide +kernel,by decide +kernel⟩
theorem zaK {f:Addr} {fd:FuncData} (F:Fun K "_law_word" "_law_word" sLw f fd) (tr:mg "range" = none):FnOk P w K mg base CX0 1 f fd ["cell"] Xn := by
 refine F.ok x9 (fun vs H Q E h => ?_) (fun cdv A outer s H vs Q E hr h => ?_)
 · obtain ⟨cell,rfl,_⟩ := h
   rfl
 · obtain ⟨cell,rfl,q⟩ := h
   refine ⟨_,(zd (zx (i := 1) x9.nd rfl (Or.inl rfl) yd)
     (zd (zx (i := 2) x9.nd rfl (Or.inl rfl) yd)
     (zd (zx (i := 3) x9.nd rfl (Or.inl rfl) (zw j5 (pv 0) zh))
     (zd (yq PassesOwn.never rfl (yM rfl tr (za (zw ya zh (zw yr (pv 0) zh)) zb)) (zr (i := 4) x9.nd rfl (Or.inl rfl))
     (zd (zx (i := 2) x9.nd rfl (Or.inl rfl) (zw xw (pv 2) (zk qJ (pv 1) (zw yr (pv 3) zh) (fun _ _ => rfl))))
       (zg (zx (i := 3) x9.nd rfl (Or.inl rfl) (zw ya (zw j5 (pv 3) zh) (zw wo zh (pv 4)))))))
     (zg (zn (pv 2))))))),?_⟩
   have es:("!\"#$&'()*+,-./0123456789:;<=>?\x40ABCDEFGHIJKLMNOPQRSTUVWXYZ[\\]^_\x60abcdefghijklmnopqrstuvwxyz{|}~" : Str) = txt yp := by decide +kernel
   have e0:("" : Str) = txt [] := by decide +kernel
   have k0 := Int.emod_nonneg cell (show (12:Int) ≠ 0 by decide)
   have k1 := Int.emod_lt_of_pos cell (show (0:Int) < 12 by decide)
   obtain ⟨N,hN⟩ : ∃ N:Nat,(1:Int) + cell % 12 = N := ⟨(1 + cell % 12).toNat,by omega⟩
   refine ⟨_,rfl,_,_,rfl,rfl,⟨by decide,by decide⟩,?_⟩
   refine ⟨_,rfl,_,_,rfl,rfl,(by show (0:Int) < 12; decide),_,_,rfl,rfl,_,rfl,by omega,by omega,?_⟩
   rw [hN]
   refine xp (lo := 0) (n := N) (fun i σ H5 => ∃ (l:W) (o:Option V) (n:Int),σ = [some (.int cell),some (.str (txt yp)),some (.str (txt l)),some (.int n),o] /\ H5 = H /\ l.length = i /\ ∀ c ∈ l,good c)
     ⟨[],none,_,by rw [<- es,<- e0]; rfl,rfl,rfl,fun c hc => (List.not_mem_nil hc).elim⟩ ?_ ?_
   · rintro i σ H5 hi ⟨l,o,n,rfl,rfl,ll,lg⟩
     refine zF ?_
     have m0 := Int.emod_nonneg n (show (93:Int) ≠ 0 by decide)
     have m1' := Int.emod_lt_of_pos n (show (0:Int) < 93 by decide)
     have hn:(n % 93).toNat < yp.length := by rw [ji]; omega
     have en:atI yp (n % 93) = some yp[(n % 93).toNat] := by
       have z:atI yp (((n % 93).toNat:Nat):Int) = some yp[(n % 93).toNat] := yA (List.getElem?_eq_getElem hn)
       rwa [show (((n % 93).toNat:Nat):Int) = n % 93 by omega] at z
     refine ⟨_,rfl,_,rfl,_,rfl,_,_,rfl,rfl,(by show (0:Int) < 93; decide),yp,_,yp[(n % 93).toNat],rfl,rfl,by rw [ji]; decide,en,?_⟩
     refine ⟨_,_,rfl,rfl,?_,?_⟩
     · rw [zL,zL]
       exact Nat.le_trans (show l.length + 1 <= 100 by omega) (by decide)
     · rw [xS]
       refine ⟨_,rfl,_,_,rfl,rfl,⟨by decide,by decide⟩,_,rfl,_,_,rfl,rfl,.inl ⟨by decide,by decide⟩,_,_,rfl,rfl,?_⟩
       refine ⟨l ++ [yp[(n % 93).toNat]],_,_,rfl,rfl,by rw [List.length_append,ll]; rfl,fun c hc => ?_⟩
       rcases List.mem_append.mp hc with z | z
       · exact lg c z
       · rw [List.mem_singleton.mp z]
         exact Xm _ (List.getElem_mem hn)
   · rintro σ H5 ⟨l,o,n,rfl,rfl,ll,lg⟩
     exact ⟨_,rfl,q l ⟨by omega,by omega,lg⟩⟩
theorem j0:zu ["script","many","texts","k","size"] ["script","many"] (ze (top 73)) := ⟨rfl,rfl,rfl,by decide +kernel,rfl,by decide +kernel,by decide +kernel⟩
theorem zaL {f fC fS fL:Addr} {fd dC dS dL:FuncData} (F:Fun K "_law_texts" "_law_texts" (top 73) f fd) (tr:mg "range" = none) (tint:mg "int" = none) (Ce:Callee P w K mg base CX0 2 "_law_cell" fC dC ["script","k"] (qH K)) (St:Callee P w K mg base CX0 1 "_law_stir" fS dS ["cell","k"] jZ) (Lw:Callee P w K mg base CX0 1 "_law_word" fL dL ["cell"] Xn) :
   FnOk P w K mg base CX0 3 f fd ["script","many"] (Xo K) := by
 refine F.ok j0 (fun vs H Q E h => ?_) (fun cdv A outer s H vs Q E hr h => ?_)
 · obtain ⟨a,ns,N,rfl,_⟩ := h
   rfl
 · obtain ⟨a,ns,N,rfl,hS,hN,q⟩ := h
   refine ⟨_,(zd (zx (i := 2) j0.nd rfl (Or.inl rfl) (zV zb))
     (zd (yq PassesOwn.never rfl (yM rfl tr (za (pv 1) zb)) (zr (i := 3) j0.nd rfl (Or.inr rfl))
     (zd (zx (i := 4) j0.nd rfl (Or.inl rfl) (zw yr (zj Ce.ok hr rfl Ce.bound Ce.kp Ce.bd .nil zB (za (pv 0) (za (zw ya zh (pv 3)) zb))) (zk zy (zV (za zh (za zh (za zh (za (zk zy (zV (za zh (za zh zb))) (yN Z1 rfl tint PyProof.Rows.boot_int (za (yJ yY (pv 1) zh (zE _)) zb)) (fun _ _ => rfl)) zb))))) (zw yr (zj Ce.ok hr rfl Ce.bound Ce.kp Ce.bd .nil zB (za (pv 0) (za zh zb))) zh) (fun _ _ => rfl))))
       (zg (z8 (yz PySem.F.plainAttrs_list PySem.F.slot_list_append PySem.F.type_list_append ym (pv 2) (za (z9 (Nc := ["j","script","k"]) (ix := [none,some 0,some 3]) rfl rfl (by exact (yM rfl tr (za (pv 4) zb))) (fun _ _ _ _ _ => (zr (i := 0) (by show (["j","script","k"]:List Str).Nodup; decide +kernel) rfl (Or.inl rfl))) (fun _ _ _ _ _ => zX) (fun _ _ _ _ _ => (zj Lw.ok (hr.mono (show 1 <= 2 by decide)) rfl Lw.bound Lw.kp Lw.bd .nil zB (za (zw ya (zj St.ok (hr.mono (show 1 <= 2 by decide)) rfl St.bound St.kp St.bd .nil zB (za (zj Ce.ok hr rfl Ce.bound Ce.kp Ce.bd .nil zB (za (pv 1) (za (zw ya zh (pv 2)) zb))) (za (pv 0) zb))) (pv 0)) zb)))) zb))))))
     (zg (zn (pv 2))))),?_⟩
   refine qK ⟨by show 0 <= sizeLine; decide,fun lt nlt => ?_⟩
   have S1 := zf (o := .lst []) nlt
   have h1:(upd H lt (.lst [])) lt = some (.lst []) := zc
   generalize upd H lt (.lst []) = H1 at S1 h1
   refine run_seq ⟨_,rfl,_,rfl,by omega,by omega,?_⟩
   refine xp (lo := 0) (n := N) (fun i σ H2 => ∃ (us:List V) (wss:List (List W)) (o3 o4:Option V),σ = [some (.ref a),some (.int N),some (.ref lt),o3,o4] /\ Same H H2 /\ H2 lt = some (.lst us) /\ Txs H2 us wss /\ wss.length = i /\ (∀ v ∈ us,∃ b,v = .ref b /\ H b = none /\ b ≠ lt))
     ⟨[],[],none,none,rfl,S1,h1,.nil,rfl,fun v hv => absurd hv List.not_mem_nil⟩ ?_ ?_
   · rintro i σ H2 hi ⟨us,wss,o3,o4,rfl,S2,hlt,hT,lw,nin⟩
     refine zF ?_
     rw [show (0:Int) + (i:Int) = (i:Int) from Int.zero_add _]
     try dsimp only
     -- how many
     refine ⟨_,rfl,_,rfl,_,_,rfl,rfl,a,ns,_,rfl,S2.seq hS,by omega,by omega,fun c1 => ?_⟩
     refine ⟨by show 2 <= sizeLine; decide,fun pd npd => ?_⟩
     obtain ⟨m1,hm1,m1a,m1b⟩ : ∃ m1:Int,atI [V.int 41,V.int 6] (if decide ((4:Int) < ((N:Nat):Int)) = true then 1 else 0) = some (.int m1) /\ 1 <= m1 /\ m1 <= 41 := by
       split
       · exact ⟨6,rfl,by decide,by decide⟩
       · exact ⟨41,rfl,by decide,by decide⟩
     refine ⟨_,rfl,_,_,rfl,rfl,_,rfl,pd,_,_,_,rfl,rfl,SqL.of zc,hm1,?_⟩
     have S5 := zf (o := .lst [V.int 41,V.int 6]) npd
     have S25 := S2.trans S5
     generalize upd H2 pd (.lst [V.int 41,V.int 6]) = H5 at S5 S25
     refine ⟨by show 4 <= sizeLine; decide,fun pe npe => ?_⟩
     have S6 := zf (o := .lst [V.int 6,V.int 6,V.int 12,V.int m1]) npe
     have h6:upd H5 pe (.lst [V.int 6,V.int 6,V.int 12,V.int m1]) pe = some (.lst [V.int 6,V.int 6,V.int 12,V.int m1]) := zc
     have S26 := S25.trans S6
     have S56 := S5.trans S6
     generalize upd H5 pe (.lst [V.int 6,V.int 6,V.int 12,V.int m1]) = H6 at S6 S26 S56 h6
     refine ⟨_,rfl,a,ns,1,rfl,S26.seq hS,by decide,by decide,fun c2 => ?_⟩
     obtain ⟨mo,hmo,moa,mob⟩ : ∃ mo:Int,atI [V.int 6,V.int 6,V.int 12,V.int m1] (c2 % 4) = some (.int mo) /\ 1 <= mo /\ mo <= 41 := by
       rcases (show c2 % 4 = 0 \/ c2 % 4 = 1 \/ c2 % 4 = 2 \/ c2 % 4 = 3 by omega) with e | e | e | e <;> rw [e]
       · exact ⟨6,rfl,by decide,by decide⟩
       · exact ⟨6,rfl,by decide,by decide⟩
       · exact ⟨12,rfl,by decide,by decide⟩
       · exact ⟨m1,rfl,m1a,m1b⟩
     refine ⟨_,_,rfl,rfl,(by show (0:Int) < 4; decide),pe,_,_,_,rfl,rfl,SqL.of h6,hmo,_,_,rfl,rfl,(by show (0:Int) < mo; omega),?_⟩
     have e0 := Int.emod_nonneg c1 (show mo ≠ 0 by omega)
     have e1 := Int.emod_lt_of_pos c1 (show 0 < mo by omega)
     obtain ⟨M,hM⟩ : ∃ M:Nat,c1 % mo = (M:Int) := ⟨(c1 % mo).toNat,by omega⟩
     refine zF ?_
     try dsimp only
     have hlt6 := S56 _ _ hlt
     refine ⟨_,rfl,.inl ⟨rfl,_,SqL.of hlt6⟩,_,rfl,_,rfl,by omega,by omega,?_⟩
     rw [hM,show ((M:Nat):Int).toNat = M from rfl]
     refine ZE (lo := 0) (n := M) (fun j ys σ H7 => ∃ ws:List W,ys = tx ws /\ H7 = H6 /\ (∀ u ∈ ws,okW u) /\ ws.length = j /\ ∃ o,σ = [o,some (.ref a),some (.int (i:Int))]) ⟨[],rfl,rfl,fun u hu => absurd hu List.not_mem_nil,rfl,none,rfl⟩
       (fun j ys σ H7 hj ⟨ws,e,_,_,l3,_⟩ => by rw [e,zT,l3]; exact Nat.le_trans (show _ <= 1000000 by omega) (by decide)) ?_ ?_
     case refine_2 =>
       rintro j ys σ H7 hj ⟨ws,rfl,rfl,hw,l3,o,rfl⟩
       dsimp only [z6,tYes]
       rw [show (0:Int) + (j:Int) = (j:Int) from Int.zero_add _]
       refine iteT ⟨_,rfl,_,rfl,_,_,rfl,rfl,a,ns,_,rfl,S26.seq hS,by omega,by omega,fun c3 => ⟨_,rfl,c3,_,rfl,by omega,by omega,fun c4 => ⟨_,rfl,_,_,rfl,rfl,_,rfl,fun u hu => ?_⟩⟩⟩
       refine ⟨ws ++ [u],by rw [wH],rfl,fun z hz => ?_,by rw [List.length_append,l3]; rfl,_,rfl⟩
       rcases List.mem_append.mp hz with y | y
       · exact hw z y
       · rw [List.mem_singleton.mp y]; exact hu
     rintro ys σ H7 ⟨ws,rfl,rfl,hw,l3,_⟩ lo nlo
     have S8 := zf (o := .lst (tx ws)) nlo
     have hlo:upd H7 lo (.lst (tx ws)) lo = some (.lst (tx ws)) := zc
     have lne:lo ≠ lt := (zI hlt6 nlo).symm
     have flo := S26.free nlo
     have S28 := S26.trans S8
     have hlt8 := S8 _ _ hlt6
     have hT8 := (hT.same S56).same S8
     generalize upd H7 lo (.lst (tx ws)) = H8 at S8 hlo S28 hlt8 hT8
     have lu := hT.len
     refine ⟨lt,_,_,rfl,rfl,hlt8,Nat.lt_of_le_of_lt (show us.length <= 100 by omega) (by decide),?_⟩
     refine ⟨us ++ [.ref lo],wss ++ [ws],_,_,rfl,zW S28 nlt,zc,?_,by rw [List.length_append,lw]; rfl,fun v hv => ?_⟩
     · have up:∀ {vs:List V} {ts:List (List W)},Txs H8 vs ts -> (∀ v ∈ vs,∃ b,v = .ref b /\ H b = none /\ b ≠ lt) -> Txs (upd H8 lt (.lst (us ++ [.ref lo]))) vs ts := by
         intro vs ts h
         induction h with
         | nil => intro _; exact .nil
         | cons h t ih =>
           intro z
           obtain ⟨p,e,hp,r⟩ := h
           obtain ⟨b,e2,_,nb⟩ := z _ List.mem_cons_self
           rw [e] at e2
           cases e2
           exact .cons ⟨p,e,by rw [zp nb]; exact hp,r⟩ (ih fun v hv => z v (List.mem_cons_of_mem _ hv))
       exact (up hT8 nin).snoc ⟨lo,rfl,by rw [zp lne]; exact hlo,hw,by omega⟩
     · rcases List.mem_append.mp hv with y | y
       · exact nin v y
       · rw [List.mem_singleton.mp y]
         exact ⟨lo,rfl,flo,lne⟩
   · rintro σ H2 ⟨us,wss,o3,o4,rfl,S2,hlt,hT,lw,nin⟩
     exact ⟨_,rfl,q lt us wss H2 S2 nlt hlt hT lw fun v hv => let ⟨b,e,n,_⟩ := nin v hv; ⟨b,e,n⟩⟩
end
end JI
namespace Sta
open Tre Lin
theorem Qt {P:R} {w k:Nat} {o:Option Nat} (h:P w k) (l:Low P w o):∃ v,o = some v := by
 cases o with
 | none => exact (l k h).elim
 | some v => exact ⟨v,rfl⟩
end Sta
namespace Sta
open PySem L2 Lin Tre
mutual
theorem zR.room {Ls:List R}:∀ {t:T} {p:Pc} {res:List (Int × Pc)},zR Ls t p res -> ∀ {P:R},HasR Ls t P -> Rm P p -> ∀ q ∈ res,0 <= q.1 /\ ∃ L,Ls[q.1.toNat]? = some L /\ Rm L q.2
 | _,_,_,.leaf,P,h,rm,q,hq => by
   rw [List.mem_singleton.mp hq]
   cases h with
   | leaf h0 h => exact ⟨h0,P,h,rm⟩
 | _,_,_,.bar h r,P,_,_,q,hq => SetL.room r (fun i t p e1 e2 => (PcsA.rm h e1 e2).2.2) q hq
 | _,_,_,.dash h r,P,_,_,q,hq => SetL.room r (fun i t p e1 e2 => (PcsD.rm h e1 e2).2.2) q hq
theorem SetL.room {Ls:List R}:∀ {ts:List T} {pcs:List Pc} {res:List (List (Int × Pc))},SetL Ls ts pcs res -> (∀ (i:Nat) (t:T) (p:Pc),ts[i]? = some t -> pcs[i]? = some p -> ∃ P,HasR Ls t P /\ Rm P p) -> ∀ q ∈ res.flatten,0 <= q.1 /\ ∃ L,Ls[q.1.toNat]? = some L /\ Rm L q.2
 | _,_,_,.nil,_,q,hq => by simp at hq
 | _,_,_,.cons h r,H,q,hq => by
   rw [List.flatten_cons] at hq
   rcases List.mem_append.mp hq with z | z
   · obtain ⟨P,hP,rm⟩ := H 0 _ _ rfl rfl
     exact zR.room h hP rm q z
   · exact SetL.room r (fun i t p e1 e2 => H (i + 1) t p (by simpa using e1) (by simpa using e2)) q z
end
end Sta
namespace Sta
open Tre Lin
def inP (p:Pc) (x y:Nat):Bool := decide (p.l <= x /\ x < p.r /\ p.t <= y /\ y < p.b)
def wthn (p q:Pc):Prop := p.l <= q.l /\ q.l < q.r /\ q.r <= p.r /\ p.t <= q.t /\ q.t < q.b /\ q.b <= p.b
theorem wthn.trans {p q s:Pc} (a:wthn p q) (b:wthn q s):wthn p s := by
 unfold wthn at *
 omega
theorem XN {a b c:Prop} [Decidable a] [Decidable b] [Decidable c] (h:c ↔ a \/ b) (n:¬ (a /\ b)):(if b then 1 else 0) + (if decide a = true then 1 else 0) = (if c then 1 else 0:Nat) := by
 by_cases ha:a
 · have hb:¬ b := fun z => n ⟨ha,z⟩
   simp [ha,hb,h]
 · by_cases hb:b
   · simp [ha,hb,h]
   · simp [ha,hb,h]
theorem PcsA.cov {Ls:List R} (hL:∀ L ∈ Ls,Up L) {top below right:Nat}:∀ {ts:List T} {left:Nat} {pcs:List Pc},PcsA Ls top below right ts left pcs -> left < right /\ top < below /\ (∀ x y,pcs.countP (inP · x y) = if left <= x /\ x < right /\ top <= y /\ y < below then 1 else 0) /\ ∀ q ∈ pcs,wthn ⟨left,top,right,below⟩ q
 | _,left,_,.one h rm => by
   have up := (HasR.up hL h).pos rm
   refine ⟨by omega,by omega,fun x y => ?_,fun q hq => ?_⟩
   · rw [List.countP_cons,List.countP_nil,Nat.zero_add]
     unfold inP
     by_cases c:left <= x /\ x < right /\ top <= y /\ y < below
     · rw [if_pos c,if_pos (decide_eq_true c)]
     · rw [if_neg c,if_neg (by rw [decide_eq_false c]; exact Bool.false_ne_true)]
   · rw [List.mem_singleton.mp hq]
     unfold wthn
     exact ⟨Nat.le_refl _,by show left < right; omega,Nat.le_refl _,Nat.le_refl _,by show top < below; omega,Nat.le_refl _⟩
 | _,left,_,.cons (w := w) h lw r => by
   obtain ⟨a,b,c,d⟩ := PcsA.cov hL r
   have up := (HasR.up hL h).pos lw.1
   refine ⟨by omega,b,fun x y => ?_,fun q hq => ?_⟩
   · rw [List.countP_cons,c]
     exact XN (a := left <= x /\ x < left + w /\ top <= y /\ y < below) (by constructor <;> intro z <;> omega) (by omega)
   · rcases List.mem_cons.mp hq with rfl | z
     · unfold wthn
       exact ⟨Nat.le_refl _,by show left < left + w; omega,by show left + w <= right; omega,Nat.le_refl _,b,Nat.le_refl _⟩
     · exact wthn.trans (q := ⟨left + w,top,right,below⟩) ⟨by show left <= left + w; omega,a,Nat.le_refl _,Nat.le_refl _,b,Nat.le_refl _⟩ (d q z)
theorem PcsD.cov {Ls:List R} (hL:∀ L ∈ Ls,Up L) {left right below:Nat}:∀ {ts:List T} {top:Nat} {pcs:List Pc},PcsD Ls left right below ts top pcs -> left < right /\ top < below /\ (∀ x y,pcs.countP (inP · x y) = if left <= x /\ x < right /\ top <= y /\ y < below then 1 else 0) /\ ∀ q ∈ pcs,wthn ⟨left,top,right,below⟩ q
 | _,top,_,.one h rm => by
   have up := (HasR.up hL h).pos rm
   refine ⟨by omega,by omega,fun x y => ?_,fun q hq => ?_⟩
   · rw [List.countP_cons,List.countP_nil,Nat.zero_add]
     unfold inP
     by_cases c:left <= x /\ x < right /\ top <= y /\ y < below
     · rw [if_pos c,if_pos (decide_eq_true c)]
     · rw [if_neg c,if_neg (by rw [decide_eq_false c]; exact Bool.false_ne_true)]
   · rw [List.mem_singleton.mp hq]
     unfold wthn
     exact ⟨Nat.le_refl _,by show left < right; omega,Nat.le_refl _,Nat.le_refl _,by show top < below; omega,Nat.le_refl _⟩
 | _,top,_,.cons (k := k) h lw r => by
   obtain ⟨a,b,c,d⟩ := PcsD.cov hL r
   have up := (HasR.up hL h).pos lw.1
   refine ⟨a,by omega,fun x y => ?_,fun q hq => ?_⟩
   · rw [List.countP_cons,c]
     exact XN (a := left <= x /\ x < right /\ top <= y /\ y < top + k) (by constructor <;> intro z <;> omega) (by omega)
   · rcases List.mem_cons.mp hq with rfl | z
     · unfold wthn
       exact ⟨Nat.le_refl _,a,Nat.le_refl _,Nat.le_refl _,by show top < top + k; omega,by show top + k <= below; omega⟩
     · exact wthn.trans (q := ⟨left,top + k,right,below⟩) ⟨Nat.le_refl _,a,Nat.le_refl _,by show top <= top + k; omega,b,Nat.le_refl _⟩ (d q z)
mutual
theorem zR.cov {Ls:List R} (hL:∀ L ∈ Ls,Up L):∀ {t:T} {p:Pc} {res:List (Int × Pc)},zR Ls t p res -> p.l < p.r -> p.t < p.b -> (∀ x y,(res.map (·.2)).countP (inP · x y) = if p.l <= x /\ x < p.r /\ p.t <= y /\ y < p.b then 1 else 0) /\ ∀ q ∈ res,wthn p q.2
 | _,p,_,.leaf,a,b => ⟨fun x y => by
     show ([p]:List Pc).countP (inP · x y) = _
     rw [List.countP_cons,List.countP_nil,Nat.zero_add]
     unfold inP
     by_cases c:p.l <= x /\ x < p.r /\ p.t <= y /\ y < p.b
     · rw [if_pos c,if_pos (decide_eq_true c)]
     · rw [if_neg c,if_neg (by rw [decide_eq_false c]; exact Bool.false_ne_true)],fun q hq => by
     rw [List.mem_singleton.mp hq]
     exact ⟨Nat.le_refl _,a,Nat.le_refl _,Nat.le_refl _,b,Nat.le_refl _⟩⟩
 | _,p,_,.bar h r,a,b => by
   obtain ⟨_,_,c,d⟩ := PcsA.cov hL h
   obtain ⟨e,f⟩ := SetL.cov hL r fun q hq => d q hq
   exact ⟨fun x y => by rw [e,c],f⟩
 | _,p,_,.dash h r,a,b => by
   obtain ⟨_,_,c,d⟩ := PcsD.cov hL h
   obtain ⟨e,f⟩ := SetL.cov hL r fun q hq => d q hq
   exact ⟨fun x y => by rw [e,c],f⟩
theorem SetL.cov {Ls:List R} (hL:∀ L ∈ Ls,Up L) {p0:Pc}:∀ {ts:List T} {pcs:List Pc} {res:List (List (Int × Pc))},SetL Ls ts pcs res -> (∀ q ∈ pcs,wthn p0 q) -> (∀ x y,(res.flatten.map (·.2)).countP (inP · x y) = pcs.countP (inP · x y)) /\ ∀ q ∈ res.flatten,wthn p0 q.2
 | _,_,_,.nil,_ => ⟨fun _ _ => rfl,fun q hq => by simp at hq⟩
 | _,_,_,.cons (p := p) h r,H => by
   have hp := H p List.mem_cons_self
   obtain ⟨c,d⟩ := zR.cov hL h hp.2.1 hp.2.2.2.2.1
   obtain ⟨e,f⟩ := SetL.cov hL r fun q hq => H q (List.mem_cons_of_mem _ hq)
   refine ⟨fun x y => ?_,fun q hq => ?_⟩
   · rw [List.flatten_cons,List.map_append,List.countP_append,c,e,List.countP_cons,Nat.add_comm]
     congr 1
     unfold inP
     by_cases z:p.l <= x /\ x < p.r /\ p.t <= y /\ y < p.b
     · rw [if_pos z,if_pos (decide_eq_true z)]
     · rw [if_neg z,if_neg (by rw [decide_eq_false z]; exact Bool.false_ne_true)]
   · rw [List.flatten_cons] at hq
     rcases List.mem_append.mp hq with z | z
     · exact hp.trans (d q z)
     · exact f q z
end
end Sta
namespace Prt
open Sta Lin
def over (x:Nat) (l r:W):W := r.take x ++ l ++ r.drop (x + l.length)
theorem jA {x:Nat} {l r:W} (h:x + l.length <= r.length):(over x l r).length = r.length := by
 unfold over
 rw [List.length_append,List.length_append,List.length_take,List.length_drop]
 omega
theorem Jm (x:Nat) (r:W):over x [] r = r := by
 unfold over
 rw [List.append_nil,List.length_nil,Nat.add_zero,List.take_append_drop]
theorem XO {x:Nat} {l r:W} (h:x + l.length <= r.length) (i:Nat):(over x l r)[i]? = if x <= i /\ i < x + l.length then l[i - x]? else r[i]? := by
 unfold over
 have lt:(r.take x).length = x := by rw [List.length_take]; omega
 by_cases c:x <= i /\ i < x + l.length
 · rw [if_pos c,List.getElem?_append_left (by rw [List.length_append,lt]; omega),List.getElem?_append_right (by rw [lt]; omega),lt]
 · rw [if_neg c]
   by_cases d:i < x
   · rw [List.getElem?_append_left (by rw [List.length_append,lt]; omega),List.getElem?_append_left (by rw [lt]; exact d),List.getElem?_take_of_lt d]
   · rw [List.getElem?_append_right (by rw [List.length_append,lt]; omega),List.length_append,lt,List.getElem?_drop]
     congr 1
     omega
theorem Qu {x:Nat} {l r:W} {i c:Nat} (h:x + l.length <= r.length) (e:l[i]? = some c):(over x (l.take i) r).set (x + i) c = over x (l.take (i + 1)) r := by
 obtain ⟨hi,ev⟩ := List.getElem?_eq_some_iff.mp e
 have l1:(l.take i).length = i := by rw [List.length_take]; omega
 have l2:(l.take (i + 1)).length = i + 1 := by rw [List.length_take]; omega
 refine List.ext_getElem? fun j => ?_
 rw [List.getElem?_set,jA (by omega),XO (by omega),XO (by omega),l1,l2]
 by_cases c1:x + i = j
 · rw [if_pos c1,if_pos (by omega),if_pos (by omega),List.getElem?_take_of_lt (by omega),show j - x = i by omega,e]
 · rw [if_neg c1]
   by_cases c2:x <= j /\ j < x + i
   · rw [if_pos c2,if_pos (by omega),List.getElem?_take_of_lt (by omega),List.getElem?_take_of_lt (by omega)]
   · rw [if_neg c2,if_neg (by omega)]
def lay1 (rows:List W) (y x:Nat) (l:W):List W := rows.set y (over x l (rows.getD y []))
def lay:List W -> Nat -> Nat -> List W -> List W
 | rows,_,_,[] => rows
 | rows,y,x,l :: ls => lay (lay1 rows y x l) (y + 1) x ls
theorem jB:∀ (ls rows:List W) (y x:Nat) (l:W),lay rows y x (ls ++ [l]) = lay1 (lay rows y x ls) (y + ls.length) x l
 | [],_,_,_,_ => rfl
 | a :: r,rows,y,x,l => by
   show lay (lay1 rows y x a) (y + 1) x (r ++ [l]) = lay1 (lay (lay1 rows y x a) (y + 1) x r) (y + (r.length + 1)) x l
   rw [jB,show y + (r.length + 1) = y + 1 + r.length by omega]
def Full (wide high:Nat) (rows:List W):Prop := rows.length = high /\ ∀ r ∈ rows,r.length = wide
theorem Qv {wide high y x:Nat} {rows:List W} {l:W} (h:Full wide high rows) (hy:y < high) (hx:x + l.length <= wide):Full wide high (lay1 rows y x l) := by
 obtain ⟨h1,h2⟩ := h
 have hl:y < rows.length := by omega
 have lr:(rows.getD y []).length = wide := by
   rw [List.getD_eq_getElem?_getD,List.getElem?_eq_getElem hl]
   exact h2 _ (List.getElem_mem hl)
 refine ⟨by unfold lay1; rw [List.length_set,h1],fun r hr => ?_⟩
 rcases List.mem_or_eq_of_mem_set hr with z | z
 · exact h2 r z
 · rw [z,jA (by omega),lr]
theorem qb {wide high x:Nat}:∀ {ls rows:List W} {y:Nat},Full wide high rows -> y + ls.length <= high -> (∀ l ∈ ls,x + l.length <= wide) -> Full wide high (lay rows y x ls)
 | [],_,_,h,_,_ => h
 | a :: r,rows,y,h,hy,hx => qb (ls := r) (Qv h (by rw [List.length_cons] at hy; omega) (hx a List.mem_cons_self)) (by rw [List.length_cons] at hy; omega) fun l hl => hx l (List.mem_cons_of_mem _ hl)
def lns (p:Pc) (ws:List W):List W := taken ((p.r:Int) - (p.l:Int)) ws
def blank (wide high:Nat):List W := List.replicate high (List.replicate wide 32)
theorem We (wide high:Nat):Full wide high (blank wide high) := ⟨List.length_replicate,fun r hr => by rw [List.eq_of_mem_replicate hr,List.length_replicate]⟩
def pgs (wide high:Nat) (pcs:List Pc) (wss:List (List W)):Nat -> List W
 | 0 => blank wide high
 | k + 1 => match pcs[k]?,wss[k]? with
   | some p,some ws => lay (pgs wide high pcs wss k) p.t p.l (lns p ws)
   | _,_ => pgs wide high pcs wss k
theorem jC {wide high:Nat} {pcs:List Pc} {wss:List (List W)} {k:Nat} {p:Pc} {ws:List W} (e1:pcs[k]? = some p) (e2:wss[k]? = some ws):pgs wide high pcs wss (k + 1) = lay (pgs wide high pcs wss k) p.t p.l (lns p ws) := by
 show (match pcs[k]?,wss[k]? with
   | some p,some ws => lay (pgs wide high pcs wss k) p.t p.l (lns p ws)
   | _,_ => pgs wide high pcs wss k) = _
 rw [e1,e2]
theorem wN {wide high:Nat} {p:Pc} (i:wthn ⟨0,0,wide,high⟩ p):p.l < p.r /\ p.r <= wide /\ p.t < p.b /\ p.b <= high := ⟨i.2.1,i.2.2.1,i.2.2.2.2.1,i.2.2.2.2.2⟩
structure Fit (wide high:Nat) (p:Pc) (ws:List W):Prop where
 ins:wthn ⟨0,0,wide,high⟩ p
 wid:∀ u ∈ ws,u.length <= p.r - p.l
 cnt:(lns p ws).length <= p.b - p.t
theorem Fit.line {wide high:Nat} {p:Pc} {ws:List W} (h:Fit wide high p ws):∀ l ∈ lns p ws,l.length <= p.r - p.l := fun l hl => by
 have i := wN h.ins
 have := QZ (wide := (p.r:Int) - (p.l:Int)) ws (fun u hu => by have := h.wid u hu; omega) l hl
 omega
theorem zbG {wide high:Nat} {p:Pc} {ws:List W} (i:wthn ⟨0,0,wide,high⟩ p) (rm:Rm (xg ws) p):Fit wide high p ws := by
 obtain ⟨a,b,c⟩ := rm
 refine ⟨i,b,?_⟩
 have i := wN i
 unfold lns
 rw [yO,show (p.r:Int) - (p.l:Int) = ((p.r - p.l:Nat):Int) by omega]
 omega
theorem qc {wide high:Nat} {pcs:List Pc} {wss:List (List W)} (h:∀ (k:Nat) (p:Pc) (ws:List W),pcs[k]? = some p -> wss[k]? = some ws -> Fit wide high p ws):∀ k,Full wide high (pgs wide high pcs wss k)
 | 0 => We wide high
 | k + 1 => by
   have ih := qc h k
   cases e1:pcs[k]? with
   | none => unfold pgs; rw [e1]; exact ih
   | some p =>
     cases e2:wss[k]? with
     | none => unfold pgs; rw [e1,e2]; exact ih
     | some ws =>
       rw [jC e1 e2]
       have f := h k p ws e1 e2
       have i := wN f.ins
       have c := f.cnt
       refine qb ih (by omega) fun l hl => ?_
       have := f.line l hl
       omega
end Prt
namespace L2
open PySem PySem.Spec PyProof.Rows
section
variable {prog:Program} {w:World} {A:Around} {E:Value -> Shared -> Prop} {s:Shared}
theorem bind_eq {α β:Type} {M:Model} {m:Sem α} {f:α -> Sem β} {a:α} {Q:β -> Shared -> Prop} (e:m = pure a) (h:wpAny M A (f a) Q E s):wpAny M A (m >>= f) Q E s := by
 subst e
 exact wpAny_bind (wpAny_pure h)
theorem Qw (l:Addr) (items:Array Value) (n:Nat) (dct:Option Addr) (sl:Array (Option Value)) (k:Nat) (tk0:Tok) (hk:k < 2 ^ 63) :
   Meets (Builtin.«enumerate.__new__» ⟨[.type "enumerate",.ref l],[("start",.int k tk0)]⟩) (fun _ R s => s.heap.get? l = some { cls := .type "list",dict := dct,data := .seq items n,slots := sl } /\
     R (.ok (.ret (.ref (s.heap.push { cls := .type "list_iterator",data := .fields #[.ref l,.int 0 0] }).objs.size)))
       { s with heap := (s.heap.push { cls := .type "list_iterator",data := .fields #[.ref l,.int 0 0] }).push { cls := .type "enumerate",data := .fields #[.none,.bool false,.ref s.heap.objs.size,rawInt k,.none,.none] } }) :=
 .of_wp fun prog w A R s h => by
   obtain ⟨hp,g,d,tk,os⟩ := s
   obtain ⟨hl,h⟩ := h
   have hsub := sub_enumerate
   have hL:Heap.IsList (Shared.heap ⟨hp,g,d,tk,os⟩) l items := ⟨_,hl,rfl,n,rfl⟩
   have hf:Builtin.SmallTypes.fitsIndex (k:Int) = true := by
     unfold Builtin.SmallTypes.fitsIndex
     rw [Bool.and_eq_true,decide_eq_true_eq,decide_eq_true_eq]
     omega
   wp_walk using AutoSeq1.wpAny_loadPart' hl
   refine wpAny_stack_any fun st => wpAny_pure ?_
   have key:∀ (f:Value -> Sem Value),wpAny (model prog w) A.in1 (pyIter (Value.ref l) >>= fun i => Builtin.SmallTypes.newRecord (Value.type "enumerate") (Builtin.SmallTypes.ownedTupleFields ++ [i,rawInt k,Value.none,Value.none]) >>= fun r => ret r) (fun fin s' => ∃ v,fin = Fin.done (Flow.ret v) /\ R (Except.ok (Flow.ret v)) s') (fun e s' => R (Except.error e) s') ⟨hp,g,d,tk,os⟩ := by
     intro f
     wp_walk using wpAny_pyIter_list hL
     exact ⟨_,rfl,h⟩
   have key2:∀ b:Bool,True := fun _ => trivial
   split
   · rename_i c _ _ _ _ _
     cases (c == Value.type "enumerate")
     · dsimp only
       rw [if_neg Bool.false_ne_true]
       with_reducible refine bind_eq (a := (Value.ref l,some (Value.int k tk0))) (by kernel_rfl) ?_
       dsimp only
       with_reducible refine bind_eq (a := Value.int k tk0) (by kernel_rfl) ?_
       with_reducible refine bind_eq (a := some (k:Int)) (by kernel_rfl) ?_
       dsimp only
       rw [hf]
       exact key pure
     · dsimp only
       rw [if_pos rfl]
       with_reducible refine bind_eq (a := (Value.ref l,some (Value.int k tk0))) (by kernel_rfl) ?_
       dsimp only
       with_reducible refine bind_eq (a := Value.int k tk0) (by kernel_rfl) ?_
       with_reducible refine bind_eq (a := some (k:Int)) (by kernel_rfl) ?_
       dsimp only
       rw [hf]
       exact key pure
   · dsimp only
     rw [if_neg Bool.false_ne_true]
     with_reducible refine bind_eq (a := (Value.ref l,some (Value.int k tk0))) (by kernel_rfl) ?_
     dsimp only
     with_reducible refine bind_eq (a := Value.int k tk0) (by kernel_rfl) ?_
     with_reducible refine bind_eq (a := some (k:Int)) (by kernel_rfl) ?_
     dsimp only
     rw [hf]
     exact key pure
theorem Jn (a b:Value):checkTypeCall "enumerate" ⟨[a],[("start",b)]⟩ = pure () := by kernel_rfl
theorem Jo (a b:Value):checkBuiltinCall "enumerate.__new__" ⟨[.type "enumerate",a],[("start",b)]⟩ = pure () := by kernel_rfl
theorem zaM (o a b:Value):argsOk "object.__init__" ⟨[o,a],[("start",b)]⟩ := by
 unfold argsOk
 kernel_rfl
theorem Qx {T newId:String} {self:Value} {rest:List Value} {kw:List (Str × Value)} (hl:typeLookup (.type T) "__init__" = pure (some (.builtin "object.__init__"))) (hm:Bind.madeBy (.type T) = pure (some newId)) (hne:(some newId != some "object.__new__") = true) :
   Meets (Builtin.«object.__init__» ⟨self :: rest,kw⟩) (fun _ R s => s.TypeIs self T /\ R (.ok (.ret .none)) s) :=
 .of_wp fun prog w A R s hs => by
   obtain ⟨hT,hq⟩ := hs
   cases rest with
   | nil =>
     cases kw with
     | nil => exact wpAny_pure ⟨_,rfl,hq⟩
     | cons a r =>
       (repeat (any_goals (first | assumption | wp_step)))
       exact ⟨_,rfl,hq⟩
   | cons a r =>
     (repeat (any_goals (first | assumption | wp_step)))
     exact ⟨_,rfl,hq⟩
theorem Qy {T newId:String} {Bn:Builtin} {args:List Value} {kw:List (Str × Value)} {S:PySem.Spec} {Q:Value -> Shared -> Prop} (ft:TypeCalled T newId "object.__init__") (hne:(some newId != some "object.__new__") = true)
   (hct:checkTypeCall T ⟨args,kw⟩ = pure ()) (hcn:checkBuiltinCall newId ⟨.type T :: args,kw⟩ = pure ()) (hok:∀ obj,argsOk "object.__init__" ⟨obj :: args,kw⟩) (entryN:entryFor table newId = some Bn)
   (g:Meets (Bn ⟨.type T :: args,kw⟩) S) (h:S A.in1 (wants (fun obj s₁ => s₁.TypeIs obj T /\ Q obj s₁) E) s):wpAny (model prog w) A (call (.type T) args kw) Q E s := by
 obtain ⟨c,tl,hmro⟩ := ft.mro
 have hmade := ft.made; have hsub := ft.sub; have h1 := ft.notType; have h2 := ft.canCreate
 refine wpAny_call (codeAny_of_tree ?_)
 show wpAny _ _ (callAny (.type T) _) _ _ _
 refine wpAny_pure ⟨Code.quiet_builtin _ (by decide +kernel),codeAny_builtin F.entry_type_call ?_⟩
 rw [Around.under_plain (weight_type_call_type T args kw) (units_type_call_type T args kw)]
 (repeat (any_goals (first | assumption | wp_step)))
 refine codeAny_mono (codeAny_call_builtin ft.plain entryN (wpAny_of_eq hcn (g prog w A.in1 _ s h))) fun r s₁ hr => ?_
 match r,hr with
 | .error e,hr => exact hr
 | .ok (.ret obj),hr =>
   obtain ⟨hT,hq⟩ := hr
   have hli := ft.init.lookup; have hbi := ft.init.bind obj
   (repeat (any_goals (first | assumption | wp_step)))
   refine codeAny_mono (codeAny_call_builtin ft.init.plain F.entry_object_init (ft.init.check _ _ _ _ _ _ _ _ hT (hok obj) (Qx ft.init.lookup ft.made hne prog w A.in1 (wants (fun r s₂ => r = .none /\ Q obj s₂) E) s₁ ⟨hT,rfl,hq⟩))) fun r₂ s₂ hr₂ => ?_
   match r₂,hr₂ with
   | .error e,hr₂ => exact hr₂
   | .ok (.ret r),hr₂ =>
     obtain ⟨rfl,hq⟩ := hr₂
     (repeat (any_goals (first | assumption | wp_step)))
   | .ok .next,hr₂ => exact hr₂.elim
   | .ok .brk,hr₂ => exact hr₂.elim
   | .ok .cont,hr₂ => exact hr₂.elim
 | .ok .next,hr => exact hr.elim
 | .ok .brk,hr => exact hr.elim
 | .ok .cont,hr => exact hr.elim
end
end L2
namespace L2
open PySem PySem.Spec PyProof.Rows
section
variable {prog:Program} {w:World} {A:Around} {E:Value -> Shared -> Prop} {s:Shared} {env:Env}
theorem Wf {l:Addr} {items:Array Value} {k:Nat} {tk0:Tok} {Q:Value -> Shared -> Prop} (hk:k < 2 ^ 63) (hL:s.heap.IsList l items)
   (h:∀ h',IsEnum h' (s.heap.objs.size + 1) s.heap.objs.size k .none -> h'.IsListIter s.heap.objs.size l 0 -> h'.objs.size = s.heap.objs.size + 2 -> (∀ b o,s.heap.get? b = some o -> h'.get? b = some o) -> Q (.ref (s.heap.objs.size + 1)) { s with heap := h' }) :
   wpAny (model prog w) A (call (.type "enumerate") [.ref l] [("start",.int k tk0)]) Q E s := by
 obtain ⟨⟨c,dct,dt,sl⟩,hl,hc,n,hd⟩ := hL
 cases (show c = .type "list" from hc)
 cases (show dt = .seq items n from hd)
 refine Qy F.called_enumerate (by decide) (Jn _ _) (Jo _ _) (fun obj => zaM obj _ _) F.entry_enumerate_new (Qw l items n dct sl k tk0 hk) ⟨hl,?_⟩
 have hz:(s.heap.push { cls := .type "list_iterator",data := .fields #[.ref l,.int 0 0] }).objs.size = s.heap.objs.size + 1 := Heap.size_push ..
 show _ /\ _
 rw [hz]
 have he:IsEnum ((s.heap.push { cls := .type "list_iterator",data := .fields #[.ref l,.int 0 0] }).push { cls := .type "enumerate",data := .fields #[.none,.bool false,.ref s.heap.objs.size,rawInt k,.none,.none] }) (s.heap.objs.size + 1) s.heap.objs.size k .none := by
   have := Heap.get?_push_size (s.heap.push { cls := .type "list_iterator",data := .fields #[.ref l,.int 0 0] }) (o := { cls := .type "enumerate",data := .fields #[.none,.bool false,.ref s.heap.objs.size,rawInt k,.none,.none] }) rfl
   rwa [hz] at this
 exact ⟨⟨_,he,rfl⟩,h _ he ⟨_,Heap.get?_push_of_some _ (Heap.get?_push_size _ rfl),rfl,rfl⟩ (by rw [Heap.size_push,hz]) fun b o x => Heap.get?_push_of_some _ (Heap.get?_push_of_some _ x)⟩
theorem j1 {M:Model} {pos:Pos} {T:String} {e:Expr} {kws:List Keyword} {Q:Value -> Shared -> Prop}
   (h:wpAny M A (spliced (backTo pos (starEach [e] env))) (fun vs s₁ => wpAny M A (evalAll ((backToKw pos (keywordEach kws env)).map (·.2))) (fun kvs s₂ => wpAny M A (call (.type T) vs (((backToKw pos (keywordEach kws env)).filterMap (·.1)).zip kvs)) Q E s₂) E s₁) E s)
   (he:starEach [e] env = [(false,eval e env)]) (hall:(backToKw pos (keywordEach kws env)).all (·.1.isSome) = true) (hkw:(backToKw pos (keywordEach kws env)).any (·.1.isNone) = false) :
   wpAny M A (callWith pos (.type T) [] (backTo pos (starEach [e] env)) (backToKw pos (keywordEach kws env))) Q E s := by
 rw [he] at h ⊢
 have hp:(backTo pos [(false,eval e env)]).any (·.1) = false := rfl
 unfold callWith
 refine wpAny_bind (wpAny_holding (wpAny_mono (evalArgs_kwB (Q := fun a s₁ => wpAny M A (call (.type T) a.pos a.kw) Q E s₁) hall h) (fun a s₁ h₁ => wpAny_bind (wpAny_standAt ?_)) fun _ _ x => x))
 simp only [hp,hkw,Bool.or_false]
 refine wpAny_bind (wpAny_pure (wpAny_bind (wpAny_mono h₁ (fun r s₂ hr => wpAny_bind (wpAny_holding (wpAny_point (wpAny_pure hr)))) fun _ _ x => x)))
end
def ItES (K:PySem.W.Frag) (a:Addr) (k:Nat):It :=
 ⟨fun i H => ∃ xs x,SqL K H a xs /\ xs[i]? = some x,fun i H x H' => ∃ p y,H p = none /\ x = .ref p /\ H' = upd H p (.tup [.int ((k + i:Nat):Int),y]) /\ ∀ xs,SqL K H a xs -> xs[i]? = some y,fun i H => ∃ xs,SqL K H a xs /\ xs.length <= i⟩
theorem Jp {prog:Program} {w:World} {A:Around} {it:Addr} {fp:List Addr} {n:Nat} {P:Nat -> Value -> Prop} {St:Nat -> Heap -> Prop} (k:Nat) (D:Draws prog w A it fp n P St) :
   Draws prog w A it fp (k + n) (fun i v => P (i - k) v) (fun i h => k <= i /\ St (i - k) h) where
 live := fun i h st => D.live _ h st.2
 frame := fun i h h' st hk => ⟨st.1,D.frame _ h h' st.2 hk⟩
 item := fun i s Q E hi st hQ => D.item (i - k) s Q E (by have := st.1; omega) st.2 fun x h' tk a b c => hQ x h' tk a ⟨by have := st.1; omega,by rw [show i + 1 - k = i - k + 1 by have := st.1; omega]; exact b⟩ c
 done := fun s Q E st hE => D.done s Q E (by have := st.2; rwa [show k + n - k = n by omega] at this) hE
theorem Wg {P:Program} {w:World} {K:PySem.W.Frag} {elts:List Expr} {kx:Nat} {px:Pos} (a e it:Addr) (k:Nat) (hei:e ≠ it) :
   Turn P w K (.Tuple elts kx px) (ItES K a k) [e,it] e (fun i h => (∃ old,IsEnum h e it ((k + i:Nat):Int) old) /\ h.IsListIter it a i) where
 mem := by simp
 obj := fun i h st b hb => by
   obtain ⟨⟨old,he⟩,⟨o,ho,c,d⟩⟩ := st
   rcases List.mem_cons.mp hb with rfl | hb
   · exact ⟨_,he,fun v z => by
       have z':Data.fields _ = Data.cell v := z
       cases z'⟩
   · obtain rfl := List.mem_singleton.mp hb
     exact ⟨o,ho,fun v z => by rw [d] at z; cases z⟩
 keep := fun i h h' st q => ⟨let ⟨old,he⟩ := st.1; ⟨old,q e (by simp) _ he⟩,st.2.at fun o z => q it (by simp) o z⟩
 item := by
   intro X hP hw hK hc i pins s σ H E I hf st hg
   subst hP hw hK
   obtain ⟨⟨old,he⟩,hit⟩ := st
   obtain ⟨xs,x,hq,hx⟩ := hg
   obtain ⟨its,rv,tp,hz⟩ := I.list hq
   obtain ⟨u,hu,ru⟩ := rv.get hx
   have hil:i < xs.length := (List.getElem?_eq_some_iff.mp hx).1
   have tp':s.heap.IsList a its.toArray := tp.isList
   have nai:a ≠ it := fun z => by
     obtain ⟨o,g1,g2,_⟩ := tp'
     obtain ⟨o',g1',g2',_⟩ := hit
     rw [z,g1'] at g1
     cases g1
     rw [g2'] at g2
     exact absurd g2 (by decide)
   have nae:a ≠ e := fun z => by
     obtain ⟨o,g1,g2,_⟩ := tp'
     rw [z,he] at g1
     cases g1
     have g3:Value.type "enumerate" = Value.type "list" := g2
     exact absurd g3 (by decide)
   have D := Jp k (Draws.list (prog := X.prog) (w := X.w) (A := X.A.in1) (by exact I.ok.hd hc) it a nai its.toArray)
   refine wpAny_pyNext_enum_itemD (i := k + i) D he ⟨Nat.le_add_right _ _,by rw [Nat.add_sub_cancel_left]; exact ⟨hit,tp'⟩⟩ (by rw [List.size_toArray,<- rv.length]; omega) hei (by simp [hei,nae.symm]) fun y h' tk hP ho hs' hT hsz hk => ?_
   rw [Nat.add_sub_cancel_left] at hP
   have ey:y = u := by
     rw [List.getElem?_toArray,hu] at hP
     exact (Option.some.inj hP).symm
   subst ey
   have hs2' := hs'.2
   rw [show k + i + 1 - k = i + 1 by omega] at hs2'
   refine ⟨_,rfl,wpAny_letOwnedTupleGo_enum ho fun h2 he2 hs2 => ?_⟩
   have ne1:s.heap.objs.size ≠ e := Nat.ne_of_gt (Heap.lt_size he)
   have k2:∀ b o,b ≠ e -> b ≠ it -> s.heap.get? b = some o -> h2.get? b = some o := fun b o n1 n2 q => (hs2.2 b n1).trans (hk b o n1 n2 q)
   have I1:Inv X pins σ H { s with heap := h2,toks := tk + 1 } := I.turned2 k2 (hf e (by simp)) (hf it (by simp))
   have hn:H s.heap.objs.size = none := I.hok.fresh (Nat.le_refl _)
   have FP := I.fpOk (b := s.heap.objs.size) (Nat.le_refl _) hn
   have hT2:h2.get? s.heap.objs.size = some { cls := .type "tuple",data := .seq #[.int ((k + i:Nat):Int) tk,y] } := (hs2.2 _ ne1).trans hT
   have I2 := I1.track (p := s.heap.objs.size) (o := .tup [.int ((k + i:Nat):Int),x]) hn (Heap.get?_none_of_le I.sz) FP.2.1 FP.2.2.2.2.1 FP.2.2.2.2.2
     ⟨by show 2 <= sizeLine; decide,[.int ((k + i:Nat):Int) tk,y],.cons ⟨tk,rfl⟩ (.cons ru .nil),⟨_,hT2,rfl,_,rfl⟩⟩
   refine ⟨.ref s.heap.objs.size,_,I2,rfl,⟨_,x,hn,rfl,rfl,fun ys hy => ?_⟩,⟨⟨y,by rw [show ((k + (i + 1):Nat):Int) = ((k + i:Nat):Int) + 1 by omega]; exact he2⟩,hs2'.1.at fun o q => (hs2.2 it hei.symm).trans q⟩,fun b hb => ?_⟩
   · rw [I.list_inj hy hq]; exact hx
   · have hb2:b ≠ s.heap.objs.size := by
       rcases List.mem_cons.mp hb with rfl | hb
       · exact ne1.symm
       · obtain rfl := List.mem_singleton.mp hb
         obtain ⟨o,g,_⟩ := hit
         exact Nat.ne_of_lt (Heap.lt_size g)
     rw [zp hb2]
     exact (hf b hb).1
 done := by
   intro X hP hw hK hc i pins s σ H E I hf st hg
   subst hP hw hK
   obtain ⟨⟨old,he⟩,hit⟩ := st
   obtain ⟨xs,hq,hx⟩ := hg
   obtain ⟨its,rv,tp,hz⟩ := I.list hq
   have tp':s.heap.IsList a its.toArray := tp.isList
   have hl := rv.length
   have hT:s.TypeIs (.ref e) "enumerate" := ⟨_,he,rfl⟩
   obtain ⟨f0,f1,f2,f3,f4,f5⟩ := hf it (by simp)
   unfold pyNext
   refine wpAny_bind (wpAny_attempt (wpAny_callSpecial?_slot (name := Str.ofString "__next__") hT F.slot_enumerate_next ?_))
   refine wpAny_call_entry F.slot_enumerate_next hT F.entry_enumerate_next ?_ (F.args_enumerate_next_1 _)
   show wpAny _ _ (field (.ref e) 2 >>= _) _ _ _
   refine wpAny_bind (wpAny_field he rfl (x := .ref it) rfl ?_)
   refine wpAny_bind (wpAny_nextOf_list_end (by exact I.ok.hd hc) hit tp' (by simp; omega) fun h' x ext hex => ?_)
   obtain ⟨o,g1,g2⟩ := hex
   refine wpAny_bind (wpAny_isInstance (T := "StopIteration") (b := true) ⟨o,g1,g2⟩ isSubtype_stop ?_)
   exact wpAny_pure ⟨rfl,I.turned (t' := s.toks) (fun b ob nb q => ext b ob nb q) f0 f1 f3 f4 f5⟩
 self := fun _ _ _ _ _ st h => let ⟨⟨_,he⟩,_⟩ := st; wpAny_pyIter_enum he h
def iEnS (K:PySem.W.Frag) (tl tk:TE):TI := fun σ H R => tl σ H fun v H1 => tk σ H1 fun u H2 => ∃ (a:Addr) (k:Nat),v = .ref a /\ u = .int (k:Int) /\ k < 2 ^ 63 /\ (∃ xs,SqL K H2 a xs) /\ R (ItES K a k) H2
theorem Jq {X:Cx} {l sx:Expr} {tl tk:TE} {elts:List Expr} {kx:Nat} {px p kp pos:Pos} (hg:Gl X "enumerate") (hm:X.mg "enumerate" = none) (ha:PE X l tl) (hb:PE X sx tk) (hs:starEach [l] X.env = [(false,eval l X.env)] := by rfl) :
   PI X (.Tuple elts kx px) (.Call (.Name "enumerate" p) [l] [⟨some "start",sx,kp⟩] pos) (iEnS X.K tl tk) := by
 intro pins s σ H R I h
 refine wpAny_Call_Name_kw (yQ I hg hm boot_enumerate ?_ (by decide) (by decide))
 refine j1 (thn ((za ha zb hs) pos pins s σ H (fun vs H1 => match vs with
   | [v] => tk σ H1 fun u H2 => ∃ (a:Addr) (k:Nat),v = .ref a /\ u = .int (k:Int) /\ k < 2 ^ 63 /\ (∃ xs,SqL X.K H2 a xs) /\ R (ItES X.K a k) H2
   | _ => False) I h) fun us s1 ⟨vs,H1,I1,r1,q1⟩ => ?_) hs rfl rfl
 match vs,q1 with
 | [v],q1 =>
 obtain ⟨u,rfl,ru⟩ := vals1 r1
 refine thn ((Xu (nm := some "start") hb Wz) pos pins s1 σ H1 (fun ws H2 => match ws with
   | [u] => ∃ (a:Addr) (k:Nat),v = .ref a /\ u = .int (k:Int) /\ k < 2 ^ 63 /\ (∃ xs,SqL X.K H2 a xs) /\ R (ItES X.K a k) H2
   | _ => False) I1 q1) fun us2 s2 ⟨ws,H2,I2,r2,q2⟩ => ?_
 match ws,q2 with
 | [z],q2 =>
 obtain ⟨u2,rfl,ru2⟩ := vals1 r2
 obtain ⟨a,k,rfl,rfl,hk,⟨xs,hq⟩,q⟩ := q2
 cases (show u = Value.ref a from ru)
 obtain ⟨t2,rfl⟩ := (show ∃ t,u2 = Value.int (k:Int) t from ru2)
 show wpAny _ _ (call (.type "enumerate") [.ref a] [(Str.ofString "start",.int k t2)]) _ _ _
 obtain ⟨its,rv,tp,hz⟩ := I2.list hq
 refine Wf hk tp.isList fun h' he hit hsz hk' => ?_
 refine wpAny_pyIter_enum he ?_
 refine ⟨s2.heap.objs.size + 1,[s2.heap.objs.size + 1,s2.heap.objs.size],_,_,H2,rfl,I2.kept (t' := s2.toks) hk',Wg a _ _ k (Nat.succ_ne_self _),⟨⟨_,he⟩,hit⟩,fun b hb => ?_,q⟩
 rcases List.mem_cons.mp hb with rfl | hb
 · exact I2.fpOk (Nat.le_succ _) (I2.hok.fresh (Nat.le_succ _))
 · obtain rfl := List.mem_singleton.mp hb
   exact I2.fpOk (Nat.le_refl _) (I2.hok.fresh (Nat.le_refl _))
theorem Qz {K:PySem.W.Frag} {a:Addr} {k:Nat} {xs:List V} {g:TG} {tb:TS} {D:Ends} {σ:St} {H:Hp} (Pv:Nat -> St -> Hp -> Prop) (h0:Pv 0 σ H) (hl:∀ i σ H,i <= xs.length -> Pv i σ H -> SqL K H a xs)
   (hs:∀ i x σ H p,xs[i]? = some x -> Pv i σ H -> H p = none -> g (.ref p) σ (upd H p (.tup [.int ((k + i:Nat):Int),x])) fun σ2 H2 => tb { D with nx := Pv (i + 1),ct := Pv (i + 1),bk := D.nx } σ2 H2) (hd:∀ σ H,Pv xs.length σ H -> D.nx σ H) :
   ∃ W:Nat -> Nat -> St -> Hp -> Prop,(∃ m,W 0 m σ H) /\ ∀ i m σ H,W i m σ H ->
     ((ItES K a k).stop i H /\ D.nx σ H) \/ ((ItES K a k).go i H /\ ∃ N:St -> Hp -> Prop,(∀ σ' H',N σ' H' -> ∃ m',m' < m /\ W (i + 1) m' σ' H') /\ ∀ x H',(ItES K a k).yld i H x H' -> g x σ H' fun σ2 H2 => tb { D with nx := N,ct := N,bk := D.nx } σ2 H2) := by
 refine ⟨fun i m σ H => m = xs.length - i /\ i <= xs.length /\ Pv i σ H,⟨xs.length,by simp,Nat.zero_le _,h0⟩,?_⟩
 rintro i m σ H ⟨rfl,hi,p⟩
 have q := hl i σ H hi p
 by_cases hlt:i < xs.length
 · refine .inr ⟨⟨xs,xs[i],q,by simp [hlt]⟩,Pv (i + 1),fun σ' H' p' => ⟨xs.length - (i + 1),by omega,rfl,hlt,p'⟩,fun x H' y => ?_⟩
   obtain ⟨pp,v,hn,e1,e2,y⟩ := y
   subst e1 e2
   exact hs i v σ H pp (y xs q) p hn
 · have e:i = xs.length := by omega
   subst e
   exact .inl ⟨⟨xs,q,Nat.le_refl _⟩,hd σ H p⟩
end L2
namespace L2
open PySem
theorem zaN {K:PySem.W.Frag} {a b:Addr} {xs ys:List V} {g:TG} {tb:TS} {D:Ends} {σ:St} {H:Hp} (Pv:Nat -> St -> Hp -> Prop) (hl:xs.length = ys.length) (h0:Pv 0 σ H) (hq:∀ i σ H,i <= xs.length -> Pv i σ H -> SqL K H a xs /\ SqL K H b ys)
   (hs:∀ i x y σ H p,xs[i]? = some x -> ys[i]? = some y -> Pv i σ H -> H p = none -> g (.ref p) σ (upd H p (.tup [x,y])) fun σ2 H2 => tb { D with nx := Pv (i + 1),ct := Pv (i + 1),bk := D.nx } σ2 H2) (hd:∀ σ H,Pv xs.length σ H -> D.nx σ H) :
   ∃ W:Nat -> Nat -> St -> Hp -> Prop,(∃ m,W 0 m σ H) /\ ∀ i m σ H,W i m σ H ->
     ((ItZ K a b).stop i H /\ D.nx σ H) \/ ((ItZ K a b).go i H /\ ∃ N:St -> Hp -> Prop,(∀ σ' H',N σ' H' -> ∃ m',m' < m /\ W (i + 1) m' σ' H') /\ ∀ x H',(ItZ K a b).yld i H x H' -> g x σ H' fun σ2 H2 => tb { D with nx := N,ct := N,bk := D.nx } σ2 H2) := by
 refine ⟨fun i m σ H => m = xs.length - i /\ i <= xs.length /\ Pv i σ H,⟨xs.length,by simp,Nat.zero_le _,h0⟩,?_⟩
 rintro i m σ H ⟨rfl,hi,p⟩
 obtain ⟨z1,z2⟩ := hq i σ H hi p
 by_cases hlt:i < xs.length
 · refine .inr ⟨⟨xs,ys,xs[i],ys[i]'(by omega),z1,z2,List.getElem?_eq_getElem _,List.getElem?_eq_getElem _⟩,Pv (i + 1),fun σ' H' p' => ⟨xs.length - (i + 1),by omega,rfl,hlt,p'⟩,fun x H' y => ?_⟩
   obtain ⟨q,u,v,hn,e,e2,y1,y2⟩ := y
   subst e e2
   exact hs i u v σ H q (y1 xs z1) (y2 ys z2) p hn
 · have e:i = xs.length := by omega
   subst e
   exact .inl ⟨⟨xs,ys,z1,z2,by omega⟩,hd σ H p⟩
end L2
namespace L2
open PySem PySem.Spec PyProof.Rows PySem.Builtin PySem.Builtin.Str Lin
end L2
namespace L2
open PySem PySem.Spec PyProof.Rows PySem.Builtin PySem.Builtin.Str Lin
def cutN (w:List Nat) (lo hi:Option Int):List Nat := (w.drop (HT.sIx w.length 0 lo)).take (HT.sIx w.length w.length hi - HT.sIx w.length 0 lo)
def Wh (n:Nat) (d:Int):Option Int -> Int
 | none => d
 | some i => Max.max (0:Int) (Min.min (if i < 0 then i + (n:Int) else i) (n:Int))
theorem XQ (n d:Nat) (v:Option Int):Wh n (d:Int) v = ((HT.sIx n d v:Nat):Int) := by
 cases v with
 | none => rfl
 | some i =>
   show Max.max (0:Int) (Min.min (if i < 0 then i + (n:Int) else i) (n:Int)) = (((if i < 0 then (i + (n:Int)).toNat else Min.min i.toNat n):Nat):Int)
   by_cases c:i < 0
   · rw [if_pos c,if_pos c]
     omega
   · rw [if_neg c,if_neg c]
     omega
theorem QA (n:Nat) (lo hi:Option Int):strSliceIndices lo hi 1 n = (List.range (HT.sIx n n hi - HT.sIx n 0 lo)).map fun k => HT.sIx n 0 lo + k := by
 have e1 := XQ n 0 lo
 have e2 := XQ n n hi
 have key:strSliceIndices lo hi 1 n = sliceRange (Wh n ((0:Nat):Int) lo) (Wh n (n:Int) hi) 1 := by
   cases lo <;> cases hi <;> rfl
 rw [key,e1,e2]
 generalize HT.sIx n 0 lo = a
 generalize HT.sIx n n hi = b
 unfold sliceRange
 simp only [show ((1:Int) > 0) = True from by simp,if_true]
 have ec:(if (a:Int) < (b:Int) then ((b:Int) - a + 1 - 1) / 1 else 0).toNat = b - a := by
   split
   · rw [Int.ediv_one]
     omega
   · show 0 = b - a
     omega
 rw [ec]
 refine List.map_congr_left fun k _ => ?_
 omega
theorem Yk (n:Nat) (lo:Option Int):HT.sIx n 0 lo <= n := by
 cases lo with
 | none => exact Nat.zero_le _
 | some i =>
   show (if i < 0 then (i + (n:Int)).toNat else min i.toNat n) <= n
   split <;> omega
theorem zaO (n:Nat) (hi:Option Int):HT.sIx n n hi <= n := by
 cases hi with
 | none => exact Nat.le_refl _
 | some i =>
   show (if i < 0 then (i + (n:Int)).toNat else min i.toNat n) <= n
   split <;> omega
theorem Jr (w:List Nat) (lo hi:Option Int):(cutN w lo hi).length <= w.length := by
 unfold cutN
 rw [List.length_take,List.length_drop]
 omega
theorem QB (w:List Nat) (lo hi:Option Int):(if ((1:Int) == 1 && (strSliceIndices lo hi 1 (txt w).length).length == (txt w).length) = true then txt w else ⟨((strSliceIndices lo hi 1 (txt w).length).filterMap ((txt w).cps[·]?)).toArray⟩) = txt (cutN w lo hi) := by
 rw [zL,QA]
 have a1 := Yk w.length lo
 have b1 := zaO w.length hi
 have pk := StrLaws.picks w (HT.sIx w.length w.length hi - HT.sIx w.length 0 lo) (HT.sIx w.length 0 lo) (by omega)
 have e:(((List.range (HT.sIx w.length w.length hi - HT.sIx w.length 0 lo)).map fun k => HT.sIx w.length 0 lo + k).filterMap ((txt w).cps[·]?)) = cutN w lo hi := by
   unfold cutN
   rw [<- pk]
   refine congrArg (fun f => List.filterMap f _) (funext fun i => ?_)
   show w.toArray[i]? = w[i]?
   simp
 rw [e]
 split
 · rename_i c
   rw [List.length_map,List.length_range] at c
   have c:HT.sIx w.length w.length hi - HT.sIx w.length 0 lo = w.length := by simpa using c
   unfold cutN
   have z:HT.sIx w.length 0 lo = 0 \/ w.length = 0 := by omega
   rw [c]
   rcases z with z | z
   · rw [z,List.drop_zero,List.take_length]
   · rw [List.length_eq_zero_iff.mp z]
     simp
 · rfl
section
variable {X:Cx}
def rSlS:V -> Option Int -> Option Int -> Hp -> VK -> Prop := fun x lo hi H Q => ∃ w:List Nat,x = .str (txt w) /\ w.length <= 1000000 /\ Q (.str (txt (cutN w lo hi))) H
theorem QC:SlR X rSlS := by
 intro pins s σ H x v vl vu lo hi sl Q I rx hs pl pu h
 obtain ⟨w,rfl,hl,q⟩ := h
 obtain ⟨t,rfl⟩ := rx
 refine ⟨"str",_,F.slot_str_getitem.lookup,typeIs_str _ _ _,?_⟩
 have big:(1000002:Nat) <= sizeLine := by decide
 have fin:∀ (l u:Option (Int × Tok)),l.map (·.1) = lo -> u.map (·.1) = hi -> (sliceMade (txt w) t l u none).post (EP X pins σ Q) s := fun l u e1 e2 => by
   unfold sliceMade slicePicked
   rw [e1,e2]
   refine post_val_or_str ?_
   have e := QB w lo hi
   refine ⟨?_,fun t' k => ?_⟩
   · rw [show (if ((Option.map (fun x:Int × Tok => x.1) none).getD 1 == 1 && (strSliceIndices lo hi ((Option.map (fun x:Int × Tok => x.1) none).getD 1) (txt w).length).length == (txt w).length) = true then txt w else ⟨((strSliceIndices lo hi ((Option.map (fun x:Int × Tok => x.1) none).getD 1) (txt w).length).filterMap ((txt w).cps[·]?)).toArray⟩) = txt (cutN w lo hi) from e,zL]
     have := Jr w lo hi
     omega
   · rw [show (if ((Option.map (fun x:Int × Tok => x.1) none).getD 1 == 1 && (strSliceIndices lo hi ((Option.map (fun x:Int × Tok => x.1) none).getD 1) (txt w).length).length == (txt w).length) = true then txt w else ⟨((strSliceIndices lo hi ((Option.map (fun x:Int × Tok => x.1) none).getD 1) (txt w).length).filterMap ((txt w).cps[·]?)).toArray⟩) = txt (cutN w lo hi) from e]
     exact ⟨.str (txt (cutN w lo hi)),H,I.tok k,⟨t',rfl⟩,q⟩
 obtain ⟨o,ho,hc,hd⟩ := hs
 cases pl with
 | none =>
   cases pu with
   | none => exact wpAny_getItem_str_slice (l := none) (u := none) (st := none) ⟨o,ho,hc,hd⟩ rfl (fin none none rfl rfl)
   | int j tj => exact wpAny_getItem_str_slice (l := none) (u := some (j,tj)) (st := none) ⟨o,ho,hc,hd⟩ rfl (fin none (some (j,tj)) rfl rfl)
 | int i ti =>
   cases pu with
   | none => exact wpAny_getItem_str_slice (l := some (i,ti)) (u := none) (st := none) ⟨o,ho,hc,hd⟩ rfl (fin (some (i,ti)) none rfl rfl)
   | int j tj => exact wpAny_getItem_str_slice (l := some (i,ti)) (u := some (j,tj)) (st := none) ⟨o,ho,hc,hd⟩ rfl (fin (some (i,ti)) (some (j,tj)) rfl rfl)
end
end L2
namespace Sta
open PySem L2 Lin Tre
def Tl (P:R) (c:Nat):Prop := ∀ w h,P w h -> P w c
def Tls:List R -> List Nat -> Prop
 | [],[] => True
 | P :: Ps,c :: cs => Tl P c /\ Tls Ps cs
 | _,_ => False
theorem zbH {P Q:R} {c d:Nat} (u:Up P) (v:Up Q) (p:Tl P c) (q:Tl Q d):Tl (bes P Q) (c + d) := fun w h ⟨a,b,e,x,y⟩ => ⟨a,b,e,u.up (p a h x) (Nat.le_refl _) (by omega),v.up (q b h y) (Nat.le_refl _) (by omega)⟩
theorem zbI {P Q:R} {c d:Nat} (p:Tl P c) (q:Tl Q d):Tl (dwn P Q) (c + d) := fun w h ⟨a,b,e,x,y⟩ => ⟨c,d,Nat.le_refl _,p w a x,q w b y⟩
theorem Zo {f:R -> R -> R} (hf:∀ P Q,Up P -> Up Q -> Up (f P Q)) (hb:∀ P Q M N,Up P -> Up Q -> Tl P M -> Tl Q N -> Tl (f P Q) (M + N)):∀ (Ps:List R) (Ms:List Nat) (P:R) (M:Nat),Up P -> (∀ Q ∈ Ps,Up Q) -> Tl P M -> Tls Ps Ms -> Tl (Ps.foldl f P) (M + Ms.sum)
 | [],[],P,M,_,_,b,_ => b
 | Q :: Ps,N :: Ms,P,M,u,us,b,⟨bq,bs⟩ => by
   have := Zo hf hb Ps Ms (f P Q) (M + N) (hf P Q u (us Q List.mem_cons_self)) (fun U hU => us U (List.mem_cons_of_mem _ hU)) (hb P Q M N u (us Q List.mem_cons_self) b bq) bs
   rw [List.sum_cons,<- Nat.add_assoc]
   exact this
theorem JN:∀ nss:List (List Int),(nss.map fun n => 40 * n.length).sum = 40 * nss.flatten.length
 | [] => rfl
 | n :: r => by
   rw [List.map_cons,List.sum_cons,JN r,List.flatten_cons,List.length_append]
   omega
mutual
theorem tall {wss:List (List W)} (h40:∀ ws ∈ wss,ws.length <= 40) (hU:∀ L ∈ wss.map xg,Up L):∀ {t:T} {n:List Int},Good t n -> ∀ {P:R},HasR (wss.map xg) t P -> Tl P (40 * n.length)
 | _,_,.leaf i,P,hR => by
   cases hR with
   | leaf h0 h =>
     rw [List.getElem?_map] at h
     obtain ⟨ws,hw,rfl⟩ := Option.map_eq_some_iff.mp h
     intro w h ⟨a,b,c⟩
     have := h40 ws (List.mem_of_getElem? hw)
     have := YG ws (w:Int)
     exact ⟨a,b,by show max 1 (cnt ws (w:Int)) <= 40 * 1; omega⟩
 | _,_,.node (ps := ps) (nss := nss) hk h2 hn hG,P,hR => by
   have s40 := JN nss
   cases hR with
   | bar h =>
     have := Wi h40 hU hG h
     have u := zK.up hU h
     cases nss with
     | nil => exact absurd this (by simp [Tls])
     | cons n0 r =>
       rw [List.map_cons,List.sum_cons] at s40
       rw [<- s40]
       exact Zo (fun _ _ a b => YT a b) (fun _ _ _ _ a b c d => zbH a b c d) _ _ _ _ (u _ List.mem_cons_self) (fun Q hQ => u Q (List.mem_cons_of_mem _ hQ)) this.1 this.2
   | dash h =>
     have := Wi h40 hU hG h
     have u := zK.up hU h
     cases nss with
     | nil => exact absurd this (by simp [Tls])
     | cons n0 r =>
       rw [List.map_cons,List.sum_cons] at s40
       rw [<- s40]
       exact Zo (fun _ _ a b => YU a b) (fun _ _ _ _ _ _ c d => zbI c d) _ _ _ _ (u _ List.mem_cons_self) (fun Q hQ => u Q (List.mem_cons_of_mem _ hQ)) this.1 this.2
theorem Wi {wss:List (List W)} (h40:∀ ws ∈ wss,ws.length <= 40) (hU:∀ L ∈ wss.map xg,Up L):∀ {ts:List T} {nss:List (List Int)},zG ts nss -> ∀ {Ps:List R},zK (wss.map xg) ts Ps -> Tls Ps (nss.map fun n => 40 * n.length)
 | _,_,.nil,Ps,hR => by
   cases hR
   exact trivial
 | _,_,.cons h r,Ps,hR => by
   cases hR with
   | cons h' r' => exact ⟨tall h40 hU h h',Wi h40 hU r r'⟩
end
end Sta
namespace JI
open PySem L2 Lin Tre PySem.W
open Sta (R HasR Low Pc zR)
open Prt (over lay lay1 lns pgs Full Fit)
theorem xl (n d:Nat):HT.sIx n d none = d := rfl
theorem QD {r:W} {x:Nat} (h:x <= r.length):cutN r none (some (x:Int)) = r.take x := by
 unfold cutN
 rw [HT.j7,xl,List.drop_zero,Nat.min_eq_left h,Nat.sub_zero]
theorem QE {r:W} {x:Nat} (h:x <= r.length):cutN r (some (x:Int)) none = r.drop x := by
 unfold cutN
 rw [HT.j7,xl,Nat.min_eq_left h,List.take_of_length_le (by rw [List.length_drop]; omega)]
def PcR (res:List (Int × Pc)) (pcs:List Pc) (m:Nat):Prop := pcs.length = m /\ ∀ (i:Nat) (p:Pc),pcs[i]? = some p -> ((i:Int),p) ∈ res
theorem Js {H:Hp} {l:Addr} {xs ys:List V} (hl:H l = some (.lst xs)) {vs:List V} {ps:List Pc} (h:z5 H vs ps):z5 (upd H l (.lst ys)) vs ps :=
 Paired.imp' (fun _ _ ⟨p,e,z⟩ => ⟨p,e,by rw [zp (y9 z hl (by intro z; cases z))]; exact z⟩) h
theorem Wj (wide k:Nat) (wss:List (List W)):(List.replicate (Int.toNat (k:Int)) [V.str (txt (List.replicate (Int.toNat (wide:Int)) 32))]).flatten = tx (pgs wide k [] wss 0) := by
 show _ = tx (List.replicate k (List.replicate wide 32))
 rw [Int.toNat_natCast,Int.toNat_natCast]
 unfold tx
 rw [List.map_replicate]
 induction k with
 | zero => rfl
 | succ k ih => rw [List.replicate_succ,List.flatten_cons,ih]; rfl
def Wk:Sp := fun vs H Q _ => ∃ (r l:W) (x:Nat),vs = [.str (txt r),.str (txt l),.int x] /\ x + l.length <= r.length /\ r.length <= 1000 /\ Q (.str (txt (over x l r))) H
def Wl (C4 C6 C7:Addr):Sp := fun vs H Q E => ∃ (x:V) (t:T) (wide:Nat) (n:List Int) (a:Addr) (xs:List V) (wss:List (List W)) (P:R),vs = [x,.ref a,.int wide] /\ At H x t /\ sz t <= 1000 /\ z4 t /\ Good t n /\ H a = some (.lst xs) /\ Txs H xs wss /\ xs.length = n.length /\ HasR (Lvs wss) t P /\ 1 <= wide /\ wide <= 400 /\
 ((∃ (high:Nat) (res:List (Int × Pc)),Low P wide (some high) /\ zR (Lvs wss) t ⟨0,0,wide,high⟩ res /\ ∀ (l:Addr) (pcs:List Pc) (H':Hp),Same H H' -> H l = none -> PcR res pcs n.length -> H' l = some (.lst (tx (pgs wide high pcs wss n.length))) -> Q (.ref l) H') \/ (Low P wide none /\ ∀ H',Same H H' -> E (.ref C7) none H'))
theorem QF {wss:List (List W)} {t:T} {n:List Int} {P:R} {wide high:Nat} {res:List (Int × Pc)} {pcs:List Pc} (hR:HasR (Lvs wss) t P) (hP:P wide high) (hS:zR (Lvs wss) t ⟨0,0,wide,high⟩ res) (hp:PcR res pcs n.length):∀ (k:Nat) (p:Pc) (ws:List W),pcs[k]? = some p -> wss[k]? = some ws -> Fit wide high p ws := by
 intro k p ws e1 e2
 have m := hp.2 k p e1
 have ps := (Sta.HasR.up (y6 wss) hR).pos hP
 have cv := (zR.cov (y6 wss) hS (by show 0 < wide; omega) (by show 0 < high; omega)).2 _ m
 obtain ⟨_,L,eL,rm⟩ := zR.room hS hR (by unfold Sta.Rm; exact hP) _ m
 have:Lvs wss = wss.map Sta.xg := rfl
 rw [this,Int.toNat_natCast,List.getElem?_map,e2] at eL
 cases eL
 exact Prt.zbG cv rm
section
variable {P:Program} {w:World} {K:PySem.W.Frag} {mg:Str -> Option Value} {base:Heap} {kA:Addr}
theorem zaP:zu ["words","wide"] ["words","wide"] (ze wA) := ⟨rfl,rfl,rfl,by decide +kernel,rfl,by decide +kernel,by decide +kernel⟩
theorem Jt {f fR fT C:Addr} {fd fdR fdT:FuncData} (F:Fun K "lines" "lines" wA f fd) (Z:Nm K mg) (Re:Callee P w K mg base (CXE P w) 4 "refuse_no_words" fR fdR ["things"] (wY C))
   (Ta:Callee P w K mg base CX0 1 "taken" fT fdT ["words","wide"] qW):FnOk P w K mg base (CXE P w) 5 f fd ["words","wide"] (qX C) := by
 obtain ⟨gOUT,gMOST,ti,tstr,tlist,tl,tall,tany,tord,_,_,_,_,_,_,_,_,_,_,_,_⟩ := Z
 refine F.okE zaP (fun vs H Q E h => ?_) (fun cdv A outer s H vs Q E hr hh h => ?_)
 · obtain ⟨x,wide,rfl,_⟩ := h
   rfl
 · obtain ⟨x,wide,rfl,h⟩ := h
   refine ⟨_,(zd (z8 (zj Re.ok hr rfl Re.bound Re.kp Re.bd .nil y3 (za (pv 0) zb)))
     (zd (zO (yl (zi (ZD rfl) (by rfl) tany PyProof.Rows.boot_any (za (z9 (Nc := ["word","wide"]) (ix := [none,some 1]) rfl rfl (by refine' yi ?zz; case zz => exact (pv 0)) (fun _ _ _ _ _ => (zr (i := 0) (by show (["word","wide"]:List Str).Nodup; decide +kernel) rfl (Or.inl rfl))) (fun _ _ _ _ _ => zX) (fun _ _ _ _ _ => (yJ yY (zi ye (by rfl) tl PySem.boot_len (za (pv 0) zb)) (pv 1) (zE _)))) zb)))
     (zg QL)
     zH)
     (zg (zn (zj Ta.ok (hr.mono (by decide)) rfl Ta.bound Ta.kp Ta.bd .nil zB (za (pv 0) (za (pv 1) zb))))))),?_⟩
   rcases h with ⟨a,ws,rfl,ha,hw,hn,hwd,q⟩ | ⟨bad,qe⟩
   · refine ⟨_,rfl,_,rfl,.inl ⟨a,ws,rfl,ha,hw,hn,fun H1 S1 => ?_⟩⟩
     have ha1 := S1 _ _ ha
     refine ⟨_,rfl,a,rfl,⟨_,SqL.of ha1⟩,yv (K := K) (a := a) (xs := tx ws) (fun i ys σ H' => ys = ((ws.take i).map fun u => decide (wide < (u.length:Int))).map V.bl /\ H' = H1 /\ ∃ o,σ = [o,some (.int wide)]) ⟨rfl,rfl,none,rfl⟩
       (fun i ys σ H' hi ⟨e,e2,_⟩ => ⟨by rw [e,List.length_map,List.length_map,List.length_take]; exact Nat.le_trans (show _ <= 1000 by omega) (by decide),by rw [e2]; exact SqL.of ha1⟩) ?_ ?_⟩
     · rintro ys σ H' ⟨e,rfl,_⟩ la nl
       rw [zT,List.take_length] at e
       subst e
       have S2 := S1.trans (zf (o := .lst ((ws.map fun u => decide (wide < (u.length:Int))).map V.bl)) nl)
       refine ⟨la,ws.map fun u => decide (wide < (u.length:Int)),rfl,SqL.of zc,_,rfl,?_⟩
       rw [Q6,decide_eq_true hwd]
       refine iteF ?_
       refine ⟨_,rfl,_,rfl,a,ws,wide,rfl,S2 _ _ ha,hw,hn,fun l H3 S3 n3 h3 => ?_⟩
       exact q l H3 (S2.trans S3) (S2.free n3) h3
     · rintro i x ys σ H' hx ⟨e,rfl,o,rfl⟩
       subst e
       obtain ⟨v,hv,rfl⟩ := xD hx
       obtain ⟨hil,ev⟩ := List.getElem?_eq_some_iff.mp hv
       dsimp only [z6,tYes]
       refine iteT ?_
       refine zS (x5 (zl rfl) (Nat.le_trans (hw v (List.mem_of_getElem? hv)).2.1 (by decide))) (zl rfl) _ ?_
       refine ⟨?_,rfl,_,rfl⟩
       rw [<- List.take_append_getElem hil,ev,List.map_append,List.map_append]
       rfl
   · exact ⟨_,rfl,_,rfl,.inr ⟨bad,fun H' S => qe H' S⟩⟩
theorem zcf:zu ["row","line","left"] ["row","line","left"] (ze sLov) := ⟨rfl,rfl,rfl,by decide +kernel,rfl,by decide +kernel,by decide +kernel⟩
theorem zbJ {f:Addr} {fd:FuncData} (F:Fun K "laid_over" "laid_over" sLov f fd) (tl:mg "len" = none):FnOk P w K mg base CX0 1 f fd ["row","line","left"] Wk := by
 refine F.ok zcf (fun vs H Q E h => ?_) (fun cdv A outer s H vs Q E hr h => ?_)
 · obtain ⟨r,l,x,rfl,_⟩ := h
   rfl
 · obtain ⟨r,l,x,rfl,hx,hr1,q⟩ := h
   refine ⟨_,(zg (zn (zw xw (zw xw (yG QC (pv 0) xb (yL (pv 2))) (pv 1)) (yG QC (pv 0) (yL (zw ya (pv 2) (zi ye (by rfl) tl PySem.boot_len (za (pv 1) zb)))) xb)))),?_⟩
   refine ⟨_,rfl,_,rfl,_,rfl,r,rfl,Nat.le_trans hr1 (by decide),_,rfl,_,_,rfl,rfl,?_,?_⟩
   · rw [zL,zL,QD (by omega),List.length_take]
     exact Nat.le_trans (show _ <= 2000 by omega) (by decide)
   · rw [xS,QD (by omega)]
     refine ⟨_,rfl,_,rfl,_,rfl,_,rfl,?_,_,_,rfl,rfl,_,rfl,r,rfl,Nat.le_trans hr1 (by decide),_,_,rfl,rfl,?_,?_⟩
     · rw [zL]
       exact Nat.le_trans (show l.length <= 1000 by omega) (by decide)
     · rw [zL,zL,zL,<- Int.natCast_add,QE (by omega),List.length_drop,List.length_append,List.length_take]
       exact Nat.le_trans (show _ <= 3000 by omega) (by decide)
     · rw [zL,<- Int.natCast_add,QE (by omega),xS]
       exact q
theorem qd:zu ["tree","texts","wide","high","rows","words","box","number","line"] ["tree","texts","wide"] (ze sPrd) := ⟨rfl,rfl,rfl,by decide +kernel,rfl,by decide +kernel,by decide +kernel⟩
theorem zbK {f fR fH fS fL fO C4 C6 C7:Addr} {fd dR dH dS dL dO:FuncData} (F:Fun K "printed" "printed" sPrd f fd) (ex:Exc K mg "NoRoom" C7) (gMW:GI mg "MOST_WIDE" 400) (gLEFT:GI mg "LEFT" 0) (gTOP:GI mg "TOP" 1) (gRIGHT:GI mg "RIGHT" 2) (tzip:mg "zip" = none) (tenum:mg "enumerate" = none)
   (Rt:Callee P w K mg base (CXE P w) 8 "refuse_no_texts" fR dR ["tree","texts"] (Z7 C4 C6)) (Hi:Callee P w K mg base (CXE P w) 30 "height_in" fH dH ["tree","texts","wide"] (Yf C4 C6 C7)) (Se:Callee P w K mg base (CXE P w) 55 "setting" fS dS ["tree","texts","wide","high"] (jY C4 C6 C7))
   (Li:Callee P w K mg base (CXE P w) 5 "lines" fL dL ["words","wide"] (qX C6)) (Lo:Callee P w K mg base CX0 1 "laid_over" fO dO ["row","line","left"] Wk) :
   FnOk P w K mg base (CXE P w) 56 f fd ["tree","texts","wide"] (Wl C4 C6 C7) := by
 refine F.okE qd (fun vs H Q E h => ?_) (fun cdv A outer s H vs Q E hr hh h => ?_)
 · obtain ⟨x,t,wide,n,a,xs,wss,P1,rfl,_⟩ := h
   rfl
 · obtain ⟨x,t,wide,n,a,xs,wss,P1,rfl,hA,hz,iT,g,ha,hT,hl,hR,w1,w4,h⟩ := h
   refine ⟨_,(zd (z8 (zj Rt.ok (hr.mono (show 8 <= 55 by decide)) rfl Rt.bound Rt.kp Rt.bd .nil y3 (za (pv 0) (za (pv 1) zb))))
     (zd (zO (yB (Yi wb wb zh (pv 2) (zJ rfl gMW)))
     (zg (xm ex hh rfl (za yd zb)))
     zH)
     (zd (zx (i := 3) qd.nd rfl (Or.inl rfl) (zj Hi.ok (hr.mono (show 30 <= 55 by decide)) rfl Hi.bound Hi.kp Hi.bd .nil y3 (za (pv 0) (za (pv 1) (za (pv 2) zb)))))
     (zd (zx (i := 4) qd.nd rfl (Or.inl rfl) (zw jJ (zV (za (zw J7 yd (pv 2)) zb)) (pv 3)))
     (zd (PS.nox (yq PassesOwn.never rfl (jQ rfl tzip (za (pv 1) (za (zj Se.ok hr rfl Se.bound Se.kp Se.bd .nil xx (za (pv 0) (za (pv 1) (za (pv 2) (za (pv 3) zb))))) zb))) (qg rfl (zP (zr (i := 5) qd.nd rfl (Or.inl rfl)) (zP (zr (i := 6) qd.nd rfl (Or.inl rfl)) yU)))
     (zg (id (yq PassesOwn.never rfl (Jq rfl tenum (zj Li.ok (hr.mono (show 5 <= 55 by decide)) rfl Li.bound Li.kp Li.bd .nil xx (za (pv 5) (za (zw yS (zk zN (pv 6) (zJ rfl gRIGHT) (fun _ _ => rfl)) (zk zN (pv 6) (zJ rfl gLEFT) (fun _ _ => rfl))) zb))) (zk zN (pv 6) (zJ rfl gTOP) (fun _ _ => rfl))) (qg rfl (zP (zr (i := 7) qd.nd rfl (Or.inl rfl)) (zP (zr (i := 8) qd.nd rfl (Or.inl rfl)) yU)))
       (zg (qh (zj Lo.ok (hr.mono (show 1 <= 55 by decide)) rfl Lo.bound Lo.kp Lo.bd .nil zB (za (zk zy (pv 4) (pv 7) (fun _ _ => rfl)) (za (pv 8) (za (zk zN (pv 6) (zJ rfl gLEFT) (fun _ _ => rfl)) zb)))) (jD (pv 4) (pv 7) set_list))))))))
     (zg (zn (pv 4)))))))),?_⟩
   have n24 := (iT.okN g).2
   refine ⟨_,rfl,_,rfl,x,.ref a,t,rfl,hA,hz,.inl ⟨n,a,xs,_,iT,g,rfl,ha,hT.jts,by omega,.inl ⟨hl,by simp,fun H1 S1 => ?_⟩⟩⟩
   dsimp only
   refine jN (p := ¬ (1 <= (wide:Int) /\ (wide:Int) <= 400)) (J0 (zZ (p := 1 <= (wide:Int) /\ (wide:Int) <= 400) (by
     rw [Bool.decide_and]
     exact WN zU (zl rfl) zU))) (fun c => absurd ⟨by omega,by omega⟩ c) (fun _ => ?_)
   refine zY ?_
   have up1 := Sta.HasR.up (y6 wss) hR
   refine ⟨_,rfl,_,rfl,_,rfl,x,.ref a,t,wide,rfl,hA.same S1,hz,.inl ⟨n,a,xs,wss,iT,g,rfl,S1 _ _ ha,hT.same S1,hl,fun P2 k H2 hR2 S2 low2 => ?_,fun P2 H2 hR2 S2 low2 => ?_⟩⟩
   case refine_2 =>
     rw [Sta.y7 hR2 hR] at low2
     rcases h with ⟨high,res,low,_⟩ | ⟨_,qe⟩
     · have := low2.uniq low
       cases this
     · exact qe H2 (S1.trans S2)
   rw [Sta.y7 hR2 hR] at low2
   rcases h with ⟨high,res,low,hSI,q⟩ | ⟨low,_⟩
   case inr =>
     have := low2.uniq low
     cases this
   have ek := low2.uniq low
   cases ek
   have rm := low.1
   have tall := Sta.tall hT.ok40 (y6 wss) g hR wide k rm
   have hk := low.2 _ tall
   have S12 := S1.trans S2
   refine zF ?_
   try dsimp only
   have e1:(" " : Str) = txt [32] := by decide +kernel
   -- the page of blanks
   refine ⟨_,rfl,32,_,by rw [e1],rfl,by omega,by omega,by show 1 <= sizeLine; decide,fun p0 np0 => ?_⟩
   refine ⟨_,rfl,p0,_,_,rfl,rfl,zc,by omega,by omega,?_,fun lr nlr => ?_⟩
   · rw [List.length_singleton,Int.toNat_natCast,Nat.one_mul]
     exact Nat.le_trans (show k <= 1000 by omega) (by decide)
   have eb:(List.replicate (Int.toNat (k:Int)) [V.str (txt (List.replicate (Int.toNat (wide:Int)) 32))]).flatten = tx (pgs wide k [] wss 0) := Wj wide k wss
   rw [eb]
   have S3 := (zf (o := .lst [V.str (txt (List.replicate (Int.toNat (wide:Int)) 32))]) np0).trans (zf (o := .lst (tx (pgs wide k [] wss 0))) nlr)
   have flr:H lr = none := S12.free ((zf (o := .lst [V.str (txt (List.replicate (Int.toNat (wide:Int)) 32))]) np0).free nlr)
   have hlr:(upd (upd H2 p0 (.lst [V.str (txt (List.replicate (Int.toNat (wide:Int)) 32))])) lr (.lst (tx (pgs wide k [] wss 0)))) lr = some (.lst (tx (pgs wide k [] wss 0))) := zc
   have S13 := S12.trans S3
   generalize upd (upd H2 p0 (.lst [V.str (txt (List.replicate (Int.toNat (wide:Int)) 32))])) lr (.lst (tx (pgs wide k [] wss 0))) = H3 at S3 hlr S13
   refine zF ?_
   try dsimp only
   -- box by box
   refine ⟨_,rfl,_,rfl,_,rfl,_,rfl,_,rfl,x,.ref a,t,wide,k,rfl,hA.same S13,hz,.inl ⟨n,a,xs,wss,P1,iT,g,rfl,S13 _ _ ha,hT.same S13,hl,hR,.inl ⟨res,rm,hSI,fun D us pcs H4 S4 nD hD hPc lpc hres => ?_⟩⟩⟩
   have hPR:PcR res pcs n.length := ⟨lpc,hres⟩
   have hF := QF (n := n) hR rm hSI hPR
   have hG := Prt.qc hF
   have S14 := S13.trans S4
   have lu := hPc.len
   have lw := hT.len
   have dne:D ≠ lr := (zI hlr nD).symm
   refine ⟨a,D,rfl,⟨_,SqL.of (S14 _ _ ha)⟩,⟨_,SqL.of hD⟩,zaN (K := K) (a := a) (b := D) (xs := xs) (ys := us) (fun i σ H5 => ∃ (o5 o6 o7 o8:Option V),σ = [some x,some (.ref a),some (.int wide),some (.int k),some (.ref lr),o5,o6,o7,o8] /\ Same H H5 /\ H5 lr = some (.lst (tx (pgs wide k pcs wss i))) /\ H5 D = some (.lst us) /\ z5 H5 us pcs)
     (by omega) ⟨none,none,none,none,rfl,S14,S4 _ _ hlr,hD,hPc⟩ (fun i σ H5 hi ⟨_,_,_,_,_,S5,_,z,_⟩ => ⟨SqL.of (S5 _ _ ha),SqL.of z⟩) ?_ ?_⟩
   · rintro i x1 y1 σ H5 tp hx1 hy1 ⟨o5,o6,o7,o8,rfl,S5,hlr5,hD5,hPc5⟩ ntp
     obtain ⟨ws,ew,pa,rfl,hpa,hw,h40⟩ := hT.get hx1
     obtain ⟨p1,ep,pp,rfl,hpp⟩ := hPc5.get hy1
     have f1 := hF i p1 ws ep ew
     have fi := Prt.wN f1.ins
     have St := zf (o := .tup [.ref pa,.ref pp]) ntp
     refine ⟨tp,_,rfl,SqT.of zc,rfl,_,_,rfl,_,_,rfl,rfl,?_⟩
     generalize upd H5 tp (.tup [.ref pa,.ref pp]) = H6 at St
     have S6 := S5.trans St
     have hlr6 := St _ _ hlr5
     have hD6 := St _ _ hD5
     have hPc6 := hPc5.same St
     have hpp6 := St _ _ hpp
     -- its lines
     refine ⟨_,rfl,_,rfl,_,_,_,_,rfl,rfl,SqT.of hpp6,rfl,_,rfl,_,_,_,_,rfl,rfl,SqT.of hpp6,rfl,_,_,rfl,rfl,.ref pa,_,rfl,.inl ⟨pa,ws,rfl,S6 _ _ hpa,hw,by omega,fun u hu => ?_,fun ll H7 S7 nll hll => ?_⟩⟩
     · have := f1.wid u hu
       omega
     have lne:ll ≠ lr := (zI hlr6 nll).symm
     have S07 := S6.trans S7
     refine ⟨_,rfl,_,_,_,_,rfl,rfl,SqT.of (S7 _ _ hpp6),rfl,ll,p1.t,rfl,rfl,by omega,⟨_,SqL.of hll⟩,?_⟩
     refine Qz (K := K) (a := ll) (k := p1.t) (xs := tx (lns p1 ws)) (fun j σ H8 => ∃ (o7 o8:Option V),σ = [some x,some (.ref a),some (.int wide),some (.int k),some (.ref lr),some (.ref pa),some (.ref pp),o7,o8] /\ Same H H8 /\ H8 lr = some (.lst (tx (lay (pgs wide k pcs wss i) p1.t p1.l ((lns p1 ws).take j)))) /\ H8 D = some (.lst us) /\ z5 H8 us pcs /\ H8 ll = some (.lst (tx (lns p1 ws))) /\ H8 pp = some (.tup (pq p1)))
       ⟨_,_,rfl,S07,S7 _ _ hlr6,S7 _ _ hD6,hPc6.same S7,hll,S7 _ _ hpp6⟩ (fun j σ H8 hj ⟨_,_,_,_,_,_,_,z,_⟩ => SqL.of z) ?_ ?_
     · rintro j v σ H8 tq hv ⟨o7,o8,rfl,S8,hlr8,hD8,hPc8,hll8,hpp8⟩ ntq
       obtain ⟨l1,el,rfl⟩ := xD hv
       obtain ⟨hjl,ev⟩ := List.getElem?_eq_some_iff.mp el
       have Sq := zf (o := .tup [.int ((p1.t + j:Nat):Int),.str (txt l1)]) ntq
       refine ⟨tq,_,rfl,SqT.of zc,rfl,_,_,rfl,_,_,rfl,rfl,?_⟩
       generalize upd H8 tq (.tup [.int ((p1.t + j:Nat):Int),.str (txt l1)]) = H9 at Sq
       have S9 := S8.trans Sq
       have hlr9 := Sq _ _ hlr8
       have hpp9 := Sq _ _ hpp8
       have fl:Full wide k (lay (pgs wide k pcs wss i) p1.t p1.l ((lns p1 ws).take j)) := Prt.qb (hG i) (by rw [List.length_take]; have := f1.cnt; omega) fun l hl => by
         have := f1.line l (List.mem_of_mem_take hl)
         omega
       have hy:p1.t + j < (lay (pgs wide k pcs wss i) p1.t p1.l ((lns p1 ws).take j)).length := by rw [fl.1]; have := f1.cnt; omega
       have e9:atI (tx (lay (pgs wide k pcs wss i) p1.t p1.l ((lns p1 ws).take j))) ((p1.t + j:Nat):Int) = some (.str (txt ((lay (pgs wide k pcs wss i) p1.t p1.l ((lns p1 ws).take j)).getD (p1.t + j) []))) := by
         refine yA ?_
         unfold tx
         rw [List.getElem?_map,List.getElem?_eq_getElem hy,L2.getD_at hy]
         rfl
       have lr9:((lay (pgs wide k pcs wss i) p1.t p1.l ((lns p1 ws).take j)).getD (p1.t + j) []).length = wide := by
         rw [L2.getD_at hy]
         exact fl.2 _ (List.getElem_mem hy)
       have ll9 := f1.line l1 (List.mem_of_getElem? el)
       refine ⟨_,rfl,_,rfl,lr,_,_,_,rfl,rfl,SqL.of hlr9,e9,_,rfl,_,rfl,_,_,_,_,rfl,rfl,SqT.of hpp9,rfl,_,l1,p1.l,rfl,by rw [lr9]; omega,by rw [lr9]; omega,?_⟩
       refine ⟨_,rfl,_,rfl,lr,_,_,p1.t + j,rfl,rfl,hlr9,?_,?_⟩
       · rw [zT]
         unfold ixN
         rw [if_pos (by omega),if_pos (by omega),Int.toNat_natCast]
       · have pne:pp ≠ lr := y9 hpp9 hlr9 (by intro z; cases z)
         refine ⟨_,_,rfl,zW S9 flr,?_,by rw [zp dne]; exact Sq _ _ hD8,Js hlr9 (hPc8.same Sq),by rw [zp lne]; exact Sq _ _ hll8,by rw [zp pne]; exact hpp9⟩
         rw [zc,<- List.take_append_getElem hjl,ev,Prt.jB,List.length_take,Nat.min_eq_left (Nat.le_of_lt hjl)]
         unfold lay1 tx
         rw [List.map_set]
     · rintro σ H8 ⟨o7,o8,rfl,S8,hlr8,hD8,hPc8,hll8,hpp8⟩
       rw [zT,List.take_length,<- Prt.jC ep ew] at hlr8
       exact ⟨_,_,_,_,rfl,S8,hlr8,hD8,hPc8⟩
   · rintro σ H5 ⟨o5,o6,o7,o8,rfl,S5,hlr5,hD5,hPc5⟩
     rw [hl] at hlr5
     exact ⟨_,rfl,q lr pcs H5 S5 flr hPR hlr5⟩
end
end JI
namespace L2
open PySem
theorem QG {X:Cx} {K:PySem.W.Frag} (hK:X.K = K):MtR X "str.join" (fun x vs H Q => ∃ (a:Addr) (ls:List (List Nat)),x = .str "" /\ vs = [.ref a] /\ SqL K H a (ls.map fun l => V.str (txt l)) /\ (ls.map List.length).sum <= 1000000 /\ Q (.str (txt ls.flatten)) H) := hK ▸ QY
end L2
namespace JI
open PySem L2 Lin Tre PySem.W
open Sta (R HasR Low Pc zR)
open Prt (over lay lay1 lns pgs Full Fit)
def sgs (r:W):List V := r.map fun c => V.str (txt [c])
theorem zaQ (r:W):(sgs r).length = r.length := by unfold sgs; rw [List.length_map]
theorem QH (wide:Nat):(List.replicate (Int.toNat (wide:Int)) [V.str " "]).flatten = sgs (List.replicate wide 32) := by
 have e1:(" " : Str) = txt [32] := by decide +kernel
 rw [Int.toNat_natCast,e1]
 unfold sgs
 rw [List.map_replicate]
 induction wide with
 | zero => rfl
 | succ k ih => rw [List.replicate_succ,List.flatten_cons,ih]; rfl
theorem zaR (r:W) (k c:Nat):(sgs r).set k (V.str (txt [c])) = sgs (r.set k c) := by
 unfold sgs
 rw [List.map_set]
theorem QI (r:W):sgs r = (r.map fun c => [c]).map (fun l => V.str (txt l)) := by
 unfold sgs
 rw [List.map_map]
 rfl
theorem QJ (r:W):(r.map fun c => [c]).flatten = r := by
 induction r with
 | nil => rfl
 | cons a r ih => rw [List.map_cons,List.flatten_cons,ih]; rfl
theorem Ju (r:W):((r.map fun c => [c]).map List.length).sum = r.length := by
 induction r with
 | nil => rfl
 | cons a r ih =>
   rw [List.map_cons,List.map_cons,List.sum_cons,ih]
   show 1 + r.length = r.length + 1
   omega
theorem Jv {rows:List W} {i:Nat} (h:i < rows.length):rows.set i (rows.getD i []) = rows := by
 rw [L2.getD_at h,List.set_getElem_self]
structure Rws (H0 H:Hp) (lr:Addr) (as:List Addr) (rows:List W):Prop where
 same:Same H0 H
 out:H lr = some (.lst (as.map V.ref))
 len:as.length = rows.length
 row:∀ (j:Nat) (a:Addr) (r:W),as[j]? = some a -> rows[j]? = some r -> H a = some (.lst (sgs r))
theorem Rws.ex {H0 H H':Hp} {lr:Addr} {as:List Addr} {rows:List W} (S:Same H H') (h:Rws H0 H lr as rows):Rws H0 H' lr as rows :=
 ⟨h.same.trans S,S _ _ h.out,h.len,fun j a r e1 e2 => S _ _ (h.row j a r e1 e2)⟩
theorem Rws.put {H0 H:Hp} {lr:Addr} {as:List Addr} {rows:List W} (nd:as.Nodup) (fr:∀ a ∈ as,H0 a = none /\ a ≠ lr) (h:Rws H0 H lr as rows) {j:Nat} {a:Addr} {r:W} (e:as[j]? = some a) (hj:j < rows.length):Rws H0 (upd H a (.lst (sgs r))) lr as (rows.set j r) := by
 have fa := fr a (List.mem_of_getElem? e)
 refine ⟨zW h.same fa.1,by rw [zp fa.2.symm]; exact h.out,by rw [List.length_set]; exact h.len,fun i b s e1 e2 => ?_⟩
 rw [List.getElem?_set] at e2
 by_cases c:j = i
 · subst c
   rw [e] at e1
   cases e1
   rw [if_pos rfl,if_pos hj] at e2
   cases e2
   exact zc
 · rw [if_neg c] at e2
   have ne:b ≠ a := fun z => by
     subst z
     obtain ⟨h1,v1⟩ := List.getElem?_eq_some_iff.mp e
     obtain ⟨h2,v2⟩ := List.getElem?_eq_some_iff.mp e1
     exact c ((List.getElem_inj nd).mp (v1.trans v2.symm))
   rw [zp ne]
   exact h.row i b s e1 e2
theorem zaS {as:List Addr} {j:Nat} {a:Addr} (h:as[j]? = some a):atI (as.map V.ref) (j:Int) = some (.ref a) := by
 refine yA ?_
 rw [List.getElem?_map,h]
 rfl
def Zp:Sp := fun vs H Q _ => ∃ (D a:Addr) (us xs:List V) (pcs:List Pc) (wss:List (List W)) (wide high:Nat),vs = [.ref D,.ref a,.int wide,.int high] /\ H D = some (.lst us) /\ z5 H us pcs /\ H a = some (.lst xs) /\ Txs H xs wss /\ us.length = xs.length /\ xs.length <= 24 /\ wide <= 1000 /\ high <= 1000 /\
 (∀ (k:Nat) (p:Pc) (ws:List W),pcs[k]? = some p -> wss[k]? = some ws -> Fit wide high p ws) /\ ∀ (l:Addr) (H':Hp),Same H H' -> H l = none -> H' l = some (.lst (tx (pgs wide high pcs wss xs.length))) -> Q (.ref l) H'
section
variable {P:Program} {w:World} {K:PySem.W.Frag} {mg:Str -> Option Value} {base:Heap} {kA:Addr}
theorem yW:zu ["boxes","texts","wide","high","rows","y","k","left","top","right","below","told","x"] ["boxes","texts","wide","high"] (ze (top 74)) := ⟨rfl,rfl,rfl,by decide +kernel,rfl,by decide +kernel,by decide +kernel⟩
theorem Jw {f fL C6:Addr} {fd dL:FuncData} (F:Fun K "_law_due" "_law_due" (top 74) f fd) (tr:mg "range" = none) (tl:mg "len" = none) (tlist:mg "list" = none) (Li:Callee P w K mg base (CXE P w) 5 "lines" fL dL ["words","wide"] (qX C6)) :
   FnOk P w K mg base CX0 6 f fd ["boxes","texts","wide","high"] Zp := by
 refine F.ok yW (fun vs H Q E h => ?_) (fun cdv A outer s H vs Q E hr h => ?_)
 · obtain ⟨D,a,us,xs,pcs,wss,wide,high,rfl,_⟩ := h
   rfl
 · obtain ⟨D,a,us,xs,pcs,wss,wide,high,rfl,hD,hPc,ha,hT,lux,h24,w1,h1,hF,q⟩ := h
   refine ⟨_,(zd (wu (i := 4) (Nc := ["y","wide"]) (ix := [none,some 2]) yW.nd rfl (Or.inl rfl) rfl rfl (by exact (yM rfl tr (za (pv 3) zb))) (fun _ _ _ _ _ => (zr (i := 0) (by show (["y","wide"]:List Str).Nodup; decide +kernel) rfl (Or.inl rfl))) (fun _ _ _ _ _ => zX) (fun _ _ _ _ _ => (zw jJ (zV (za yd zb)) (pv 1))))
     (zd (yq PassesOwn.never rfl (yM rfl tr (za (zi zm (by rfl) tl PySem.boot_len (za (pv 1) zb)) zb)) (zr (i := 6) yW.nd rfl (Or.inl rfl))
     (zd (qh (zk zy (pv 0) (pv 6) (fun _ _ => rfl)) (qg rfl (zP (zr (i := 7) yW.nd rfl (Or.inl rfl)) (zP (zr (i := 8) yW.nd rfl (Or.inl rfl)) (zP (zr (i := 9) yW.nd rfl (Or.inl rfl)) (zP (zr (i := 10) yW.nd rfl (Or.inl rfl)) yU))))))
       (zd (zx (i := 11) yW.nd rfl (Or.inl rfl) (zj Li.ok hr rfl Li.bound Li.kp Li.bd .nil xx (za (yN (qf (K := K) rfl) rfl tlist PyProof.Rows.boot_list (za (zk zy (pv 1) (pv 6) (fun _ _ => rfl)) zb)) (za (zw yS (pv 9) (pv 7)) zb))))
       (zd (zO (PW.pt (yH (zC yY (zi zm (by rfl) tl PySem.boot_len (za (pv 11) zb)) (zw yS (pv 10) (pv 8)) (zE _)) (yR (zC yY (zw ya (pv 8) (zi zm (by rfl) tl PySem.boot_len (za (pv 11) zb))) (pv 3) (zE _)))))
       (zg (zn y0))
       zH)
       (zg (yq PassesOwn.never rfl (yM rfl tr (za (zi zm (by rfl) tl PySem.boot_len (za (pv 11) zb)) zb)) (zr (i := 5) yW.nd rfl (Or.inl rfl))
       (zd (zO (PW.pt (yH (zC yY (zi ye (by rfl) tl PySem.boot_len (za (zk zy (pv 11) (pv 5) (fun _ _ => rfl)) zb)) (zw yS (pv 9) (pv 7)) (zE _)) (yR (zC yY (pv 9) (pv 2) (zE _)))))
         (zg (zn y0))
         zH)
         (zg (yq PassesOwn.never rfl (yM rfl tr (za (zi ye (by rfl) tl PySem.boot_len (za (zk zy (pv 11) (pv 5) (fun _ _ => rfl)) zb)) zb)) (zr (i := 12) yW.nd rfl (Or.inl rfl))
         (zg (qh (zk qJ (zk zy (pv 11) (pv 5) (fun _ _ => rfl)) (pv 12) (fun _ _ => rfl)) (jD (zk zy (pv 4) (zw ya (pv 8) (pv 5)) (fun _ _ => rfl)) (zw ya (pv 7) (pv 12)) set_list))))))))))))
     (zg (zn (z9 (Nc := ["row"]) (ix := [none]) rfl rfl (by refine' yi ?zz; case zz => exact (pv 4)) (fun _ _ _ _ _ => (zr (i := 0) (by show (["row"]:List Str).Nodup; decide +kernel) rfl (Or.inl rfl))) (fun _ _ _ _ _ => zX) (fun _ _ _ _ _ => (zbD (K := K) rfl PySem.F.plainAttrs_str PySem.F.slot_str_join PySem.F.type_str_join (QG (K := K) rfl) yd (za (pv 0) zb)))))))),?_⟩
   have hG := Prt.qc hF
   have e1:(" " : Str) = txt [32] := by decide +kernel
   have lu := hPc.len
   have lw := hT.len
   -- blanks
   refine ⟨_,rfl,_,rfl,by omega,by omega,?_⟩
   rw [Int.toNat_natCast]
   refine ZE (lo := 0) (n := high) (fun i ys σ H1 => ∃ as:List Addr,ys = as.map V.ref /\ as.length = i /\ as.Nodup /\ (∀ b ∈ as,H b = none /\ H1 b = some (.lst (sgs (List.replicate wide 32)))) /\ Same H H1 /\ ∃ o,σ = [o,some (.int wide)])
     ⟨[],rfl,rfl,List.nodup_nil,fun b hb => absurd hb List.not_mem_nil,Same.refl _,none,rfl⟩ (fun i ys σ H1 hi ⟨as,e,l,_⟩ => by rw [e,List.length_map,l]; exact Nat.le_trans (show i <= 1000 by omega) (by decide)) ?_ ?_
   case refine_2 =>
     rintro i ys σ H1 hi ⟨as,rfl,las,nd,hb,S1,o,rfl⟩
     dsimp only [z6,tYes]
     refine iteT ⟨by show 1 <= sizeLine; decide,fun p0 np0 => ⟨_,rfl,p0,_,_,rfl,rfl,zc,by omega,by omega,?_,fun p1 np1 => ?_⟩⟩
     · rw [List.length_singleton,Int.toNat_natCast,Nat.one_mul]
       exact Nat.le_trans w1 (by decide)
     have eb:(List.replicate (Int.toNat (wide:Int)) [V.str " "]).flatten = sgs (List.replicate wide 32) := QH wide
     rw [eb]
     have S2 := (zf (o := .lst [V.str " "]) np0).trans (zf (o := .lst (sgs (List.replicate wide 32))) np1)
     have fp1 := (zf (o := .lst [V.str " "]) np0).free np1
     refine ⟨as ++ [p1],by rw [List.map_append]; rfl,by rw [List.length_append,las]; rfl,?_,fun b hb' => ?_,S1.trans S2,_,rfl⟩
     · refine List.nodup_append.mpr ⟨nd,List.nodup_cons.mpr ⟨List.not_mem_nil,List.nodup_nil⟩,fun b hb1 c hc z => ?_⟩
       rw [List.mem_singleton.mp hc] at z
       have := (hb b hb1).2
       rw [z,fp1] at this
       cases this
     · rcases List.mem_append.mp hb' with z | z
       · exact ⟨(hb b z).1,S2 _ _ (hb b z).2⟩
       · rw [List.mem_singleton.mp z]
         exact ⟨S1.free fp1,zc⟩
   rintro ys σ H1 ⟨as,rfl,las,nd,hb,S1,o,rfl⟩ lr nlr
   have S2 := zf (o := .lst (as.map V.ref)) nlr
   have fr:∀ b ∈ as,H b = none /\ b ≠ lr := fun b hb1 => ⟨(hb b hb1).1,zI (hb b hb1).2 nlr⟩
   have flr := S1.free nlr
   have R0:Rws H (upd H1 lr (.lst (as.map V.ref))) lr as (pgs wide high pcs wss 0) := by
     refine ⟨S1.trans S2,zc,?_,fun j b r e1 e2 => ?_⟩
     · show _ = (List.replicate high (List.replicate wide 32)).length
       rw [las,List.length_replicate]
     · have:r = List.replicate wide 32 := List.eq_of_mem_replicate (List.mem_of_getElem? e2)
       rw [this]
       exact S2 _ _ (hb b (List.mem_of_getElem? e1)).2
   generalize upd H1 lr (.lst (as.map V.ref)) = H2 at R0
   try dsimp only
   -- text by text
   refine ⟨_,rfl,a,_,rfl,.inl (SqL.of (R0.same _ _ ha)),_,rfl,by omega,by omega,?_⟩
   rw [Int.toNat_natCast]
   refine xp (lo := 0) (n := xs.length) (fun i σ H3 => ∃ (o5 o6 o7 o8 o9 o10 o11 o12:Option V),σ = [some (.ref D),some (.ref a),some (.int wide),some (.int high),some (.ref lr),o5,o6,o7,o8,o9,o10,o11,o12] /\ Rws H H3 lr as (pgs wide high pcs wss i))
     ⟨_,_,_,_,_,_,_,_,rfl,R0⟩ ?_ ?_
   · rintro i σ H3 hi ⟨o5,o6,o7,o8,o9,o10,o11,o12,rfl,R3⟩
     refine zF ?_
     rw [show (0:Int) + (i:Int) = (i:Int) from Int.zero_add _]
     try dsimp only
     obtain ⟨ws,ew,pa,ev,hpa,hw,h40⟩ := hT.get (List.getElem?_eq_getElem hi)
     obtain ⟨p1,ep,pp,ev2,hpp⟩ := hPc.get (List.getElem?_eq_getElem (show i < us.length by omega))
     have f1 := hF i p1 ws ep ew
     have fi := Prt.wN f1.ins
     refine ⟨_,rfl,_,rfl,D,us,_,.ref pp,rfl,rfl,SqL.of (R3.same _ _ hD),yA (by rw [List.getElem?_eq_getElem (show i < us.length by omega),ev2]),?_⟩
     refine ⟨pp,_,rfl,SqT.of (R3.same _ _ hpp),rfl,_,_,rfl,_,_,rfl,_,_,rfl,_,_,rfl,rfl,?_⟩
     try dsimp only
     refine ⟨_,rfl,_,rfl,a,xs,_,.ref pa,rfl,rfl,SqL.of (R3.same _ _ ha),yA (by rw [List.getElem?_eq_getElem hi,ev]),pa,_,rfl,.inl (SqL.of (R3.same _ _ hpa)),fun pl npl => ?_⟩
     have S4 := zf (o := .lst (tx ws)) npl
     have R4 := R3.ex S4
     have hpl:(upd H3 pl (.lst (tx ws))) pl = some (.lst (tx ws)) := zc
     generalize upd H3 pl (.lst (tx ws)) = H4 at S4 R4 hpl
     refine ⟨_,rfl,_,rfl,_,_,rfl,rfl,.ref pl,_,rfl,.inl ⟨pl,ws,rfl,hpl,hw,by omega,fun u hu => ?_,fun ll H5 S5 nll hll => ?_⟩⟩
     · have := f1.wid u hu
       omega
     have R5 := R4.ex S5
     have hll:H5 ll = some (.lst (tx (lns p1 ws))) := hll
     refine zF ?_
     try dsimp only
     have c1 := f1.cnt
     refine jN (p := (p1.b:Int) - (p1.t:Int) < ((lns p1 ws).length:Int) \/ (high:Int) < (p1.t:Int) + ((lns p1 ws).length:Int)) (WO (zZ (by rw [<- zT (lns p1 ws)]; exact zS (yu (zl rfl) (SqL.of hll)) (zS (zl rfl) (zl rfl)))) (zZ (by rw [<- zT (lns p1 ws)]; exact zS (zS (zl rfl) (yu (zl rfl) (SqL.of hll))) (zl rfl)))) (fun c => ?_) (fun _ => ?_)
     · exfalso
       omega
     refine zY ?_
     try dsimp only
     refine ⟨_,rfl,ll,_,rfl,.inl (SqL.of hll),_,rfl,by rw [zT]; omega,by rw [zT]; omega,?_⟩
     rw [zT,Int.toNat_natCast]
     refine xp (lo := 0) (n := (lns p1 ws).length) (fun y σ H6 => ∃ (o5 o12:Option V),σ = [some (.ref D),some (.ref a),some (.int wide),some (.int high),some (.ref lr),o5,some (.int i),some (nV p1.l),some (nV p1.t),some (nV p1.r),some (nV p1.b),some (.ref ll),o12] /\ Rws H H6 lr as (lay (pgs wide high pcs wss i) p1.t p1.l ((lns p1 ws).take y)) /\ H6 ll = some (.lst (tx (lns p1 ws))))
       ⟨_,_,rfl,R5,hll⟩ ?_ ?_
     · rintro y σ H6 hy ⟨o5,o12,rfl,R6,hll6⟩
       refine zF ?_
       rw [show (0:Int) + (y:Int) = (y:Int) from Int.zero_add _]
       try dsimp only
       have el:(lns p1 ws)[y]? = some (lns p1 ws)[y] := List.getElem?_eq_getElem hy
       generalize (lns p1 ws)[y] = l1 at el
       have el2:atI (tx (lns p1 ws)) (y:Int) = some (.str (txt l1)) := by
         refine yA ?_
         unfold tx
         rw [List.getElem?_map,el]
         rfl
       have ll1 := f1.line l1 (List.mem_of_getElem? el)
       refine jN (p := (p1.r:Int) - (p1.l:Int) < (l1.length:Int) \/ (wide:Int) < (p1.r:Int)) (WO (zZ (zS (x5 (xc (zl rfl) (zl rfl) (SqL.of hll6) el2) (by omega)) (zS (zl rfl) (zl rfl)))) (zZ (zS (zl rfl) (zl rfl)))) (fun c => by exfalso; omega) (fun _ => ?_)
       refine zY ?_
       try dsimp only
       refine ⟨_,rfl,_,rfl,ll,_,_,_,rfl,rfl,SqL.of hll6,el2,_,rfl,?_,_,rfl,by rw [zL]; omega,by rw [zL]; omega,?_⟩
       · rw [zL]
         exact Nat.le_trans (show l1.length <= 1000 by omega) (by decide)
       rw [zL,Int.toNat_natCast]
       have fl:Full wide high (lay (pgs wide high pcs wss i) p1.t p1.l ((lns p1 ws).take y)) := Prt.qb (hG i) (by rw [List.length_take]; omega) fun l hl => by
         have := f1.line l (List.mem_of_mem_take hl)
         omega
       have hty:p1.t + y < (lay (pgs wide high pcs wss i) p1.t p1.l ((lns p1 ws).take y)).length := by rw [fl.1]; omega
       have lrow:((lay (pgs wide high pcs wss i) p1.t p1.l ((lns p1 ws).take y)).getD (p1.t + y) []).length = wide := by
         rw [L2.getD_at hty]
         exact fl.2 _ (List.getElem_mem hty)
       have hta:p1.t + y < as.length := by rw [R6.len]; exact hty
       have ea:as[p1.t + y]? = some as[p1.t + y] := List.getElem?_eq_getElem hta
       generalize as[p1.t + y] = ra at ea
       have elast:lay (pgs wide high pcs wss i) p1.t p1.l ((lns p1 ws).take (y + 1)) = lay1 (lay (pgs wide high pcs wss i) p1.t p1.l ((lns p1 ws).take y)) (p1.t + y) p1.l l1 := by
         obtain ⟨hj,ev1⟩ := List.getElem?_eq_some_iff.mp el
         rw [<- List.take_append_getElem hj,ev1,Prt.jB,List.length_take,Nat.min_eq_left (Nat.le_of_lt hj)]
       rw [elast]
       unfold lay1
       generalize lay (pgs wide high pcs wss i) p1.t p1.l ((lns p1 ws).take y) = rws at R6 fl hty lrow
       generalize er:rws.getD (p1.t + y) [] = row at lrow
       refine xp (lo := 0) (n := l1.length) (fun x σ H7 => ∃ (o12:Option V),σ = [some (.ref D),some (.ref a),some (.int wide),some (.int high),some (.ref lr),some (.int y),some (.int i),some (nV p1.l),some (nV p1.t),some (nV p1.r),some (nV p1.b),some (.ref ll),o12] /\ Rws H H7 lr as (rws.set (p1.t + y) (over p1.l (l1.take x) row)) /\ H7 ll = some (.lst (tx (lns p1 ws))))
         ⟨_,rfl,by rw [List.take_zero,Prt.Jm,<- er,Jv hty]; exact R6,hll6⟩ ?_ ?_
       · rintro x σ H7 hx ⟨o12,rfl,R7,hll7⟩
         refine zF ?_
         rw [show (0:Int) + (x:Int) = (x:Int) from Int.zero_add _]
         try dsimp only
         have ec:l1[x]? = some l1[x] := List.getElem?_eq_getElem hx
         generalize l1[x] = c at ec
         have hset:(rws.set (p1.t + y) (over p1.l (l1.take x) row))[p1.t + y]? = some (over p1.l (l1.take x) row) := by rw [List.getElem?_set_self hty]
         have h7 := R7.row _ ra _ ea hset
         have lov:(over p1.l (l1.take x) row).length = wide := by rw [Prt.jA (by rw [List.length_take]; omega),lrow]
         refine ⟨_,rfl,_,rfl,ll,_,_,_,rfl,rfl,SqL.of hll7,el2,_,rfl,l1,_,c,rfl,rfl,by omega,yA ec,?_⟩
         refine ⟨_,rfl,_,rfl,_,rfl,_,_,rfl,rfl,lr,_,_,.ref ra,rfl,rfl,SqL.of R7.out,by rw [<- Int.natCast_add]; exact zaS ea,_,rfl,_,rfl,_,_,rfl,rfl,ra,_,_,p1.l + x,rfl,rfl,h7,?_,?_⟩
         · rw [zaQ,lov,<- Int.natCast_add]
           unfold ixN
           rw [if_pos (by omega),if_pos (by omega),Int.toNat_natCast]
         · rw [zaR,Prt.Qu (by omega) ec]
           have R8 := R7.put nd fr (r := over p1.l (l1.take (x + 1)) row) ea (by rw [List.length_set]; exact hty)
           rw [List.set_set] at R8
           have lne:ll ≠ ra := fun z => by
             subst z
             have := (fr ll (List.mem_of_getElem? ea)).1
             have f0 := R4.same.free nll
             have := R4.row _ ll _ ea (List.getElem?_eq_getElem (show p1.t + y < (pgs wide high pcs wss i).length by rw [(hG i).1]; omega))
             rw [nll] at this
             cases this
           exact ⟨_,rfl,R8,by rw [zp lne]; exact hll7⟩
       · rintro σ H7 ⟨o12,rfl,R7,hll7⟩
         rw [List.take_length] at R7
         exact ⟨_,_,rfl,R7,hll7⟩
     · rintro σ H6 ⟨o5,o12,rfl,R6,hll6⟩
       rw [List.take_length,<- Prt.jC ep ew] at R6
       exact ⟨_,_,_,_,_,_,_,_,rfl,R6⟩
   · rintro σ H3 ⟨o5,o6,o7,o8,o9,o10,o11,o12,rfl,R3⟩
     have fl := hG xs.length
     refine ⟨_,rfl,lr,rfl,⟨_,SqL.of R3.out⟩,yv (K := K) (a := lr) (xs := as.map V.ref) (fun i ys σ H4 => ys = tx ((pgs wide high pcs wss xs.length).take i) /\ H4 = H3 /\ ∃ o,σ = [o]) ⟨rfl,rfl,none,rfl⟩
       (fun i ys σ H4 hi ⟨e,e2,_⟩ => ⟨by rw [e,zT,List.length_take,fl.1]; exact Nat.le_trans (show _ <= 1000 by omega) (by decide),by rw [e2]; exact SqL.of R3.out⟩) ?_ ?_⟩
     case refine_2 =>
       rintro i v ys σ H4 hv ⟨rfl,rfl,o,rfl⟩
       rw [List.getElem?_map] at hv
       obtain ⟨ra,ea,rfl⟩ := Option.map_eq_some_iff.mp hv
       obtain ⟨hia,_⟩ := List.getElem?_eq_some_iff.mp ea
       have hir:i < (pgs wide high pcs wss xs.length).length := by rw [<- R3.len]; exact hia
       have er:(pgs wide high pcs wss xs.length)[i]? = some (pgs wide high pcs wss xs.length)[i] := List.getElem?_eq_getElem hir
       have h4 := R3.row i ra _ ea er
       have lr4 := fl.2 _ (List.getElem_mem hir)
       dsimp only [z6,tYes]
       refine iteT ⟨rfl,_,rfl,ra,((pgs wide high pcs wss xs.length)[i]).map fun c => [c],rfl,rfl,by rw [<- QI]; exact SqL.of h4,by rw [Ju,lr4]; omega,?_⟩
       rw [QJ]
       refine ⟨?_,rfl,_,rfl⟩
       rw [<- List.take_append_getElem hir,wH]
     rintro ys σ H4 ⟨rfl,rfl,_⟩ lf nlf
     rw [show (as.map V.ref).length = (pgs wide high pcs wss xs.length).length by rw [List.length_map,R3.len],List.take_length]
     exact q lf _ (R3.same.trans (zf nlf)) (R3.same.free nlf) zc
end
end JI
namespace Sta
open Tre Lin
def Bg (P:R) (m:Nat):Prop := P (12 * m) (40 * m)
def Bgs:List R -> List Nat -> Prop
 | [],[] => True
 | P :: Ps,m :: ms => Bg P m /\ Bgs Ps ms
 | _,_ => False
theorem zbL {P Q:R} {a b:Nat} (u:Up P) (v:Up Q) (p:Bg P a) (q:Bg Q b):Bg (bes P Q) (a + b) := ⟨12 * a,12 * b,by omega,u.up p (Nat.le_refl _) (by omega),v.up q (Nat.le_refl _) (by omega)⟩
theorem zbM {P Q:R} {a b:Nat} (u:Up P) (v:Up Q) (p:Bg P a) (q:Bg Q b):Bg (dwn P Q) (a + b) := ⟨40 * a,40 * b,by omega,u.up p (by omega) (Nat.le_refl _),v.up q (by omega) (Nat.le_refl _)⟩
theorem Zq {f:R -> R -> R} (hf:∀ P Q,Up P -> Up Q -> Up (f P Q)) (hb:∀ P Q a b,Up P -> Up Q -> Bg P a -> Bg Q b -> Bg (f P Q) (a + b)):∀ (Ps:List R) (ms:List Nat) (P:R) (m:Nat),Up P -> (∀ Q ∈ Ps,Up Q) -> Bg P m -> Bgs Ps ms -> Bg (Ps.foldl f P) (m + ms.sum)
 | [],[],P,m,_,_,p,_ => p
 | Q :: Ps,a :: ms,P,m,u,us,p,q => by
   rw [List.foldl_cons,List.sum_cons,<- Nat.add_assoc]
   exact Zq hf hb Ps ms (f P Q) (m + a) (hf _ _ u (us Q List.mem_cons_self)) (fun R hR => us R (List.mem_cons_of_mem _ hR)) (hb _ _ _ _ u (us Q List.mem_cons_self) p q.1) q.2
 | [],_ :: _,_,_,_,_,_,q => q.elim
 | _ :: _,[],_,_,_,_,_,q => q.elim
mutual
theorem big {wss:List (List W)} (h40:∀ ws ∈ wss,ws.length <= 40) (h12:∀ ws ∈ wss,∀ u ∈ ws,u.length <= 12) (hU:∀ L ∈ wss.map xg,Up L):∀ {t:T} {n:List Int},Good t n -> ∀ {P:R},HasR (wss.map xg) t P -> Bg P n.length
 | _,_,.leaf i,P,hR => by
   cases hR with
   | leaf h0 h =>
     rw [List.getElem?_map] at h
     obtain ⟨ws,hw,rfl⟩ := Option.map_eq_some_iff.mp h
     have := h40 ws (List.mem_of_getElem? hw)
     have := YG ws ((12:Nat):Int)
     refine ⟨by show 1 <= 12 * 1; decide,fun u hu => h12 ws (List.mem_of_getElem? hw) u hu,?_⟩
     show max 1 (cnt ws ((12:Nat):Int)) <= 40 * 1
     omega
 | _,_,.node (ps := ps) (nss := nss) hk h2 hn hG,P,hR => by
   have s0:nss.flatten.length = (nss.map List.length).sum := List.length_flatten
   cases hR with
   | bar h =>
     have := bigL h40 h12 hU hG h
     have u := zK.up hU h
     cases nss with
     | nil => exact absurd this (by simp [Bgs])
     | cons n0 r =>
       rw [s0,List.map_cons,List.sum_cons]
       exact Zq (fun _ _ a b => YT a b) (fun _ _ _ _ a b c d => zbL a b c d) _ _ _ _ (u _ List.mem_cons_self) (fun Q hQ => u Q (List.mem_cons_of_mem _ hQ)) this.1 this.2
   | dash h =>
     have := bigL h40 h12 hU hG h
     have u := zK.up hU h
     cases nss with
     | nil => exact absurd this (by simp [Bgs])
     | cons n0 r =>
       rw [s0,List.map_cons,List.sum_cons]
       exact Zq (fun _ _ a b => YU a b) (fun _ _ _ _ a b c d => zbM a b c d) _ _ _ _ (u _ List.mem_cons_self) (fun Q hQ => u Q (List.mem_cons_of_mem _ hQ)) this.1 this.2
theorem bigL {wss:List (List W)} (h40:∀ ws ∈ wss,ws.length <= 40) (h12:∀ ws ∈ wss,∀ u ∈ ws,u.length <= 12) (hU:∀ L ∈ wss.map xg,Up L):∀ {ts:List T} {nss:List (List Int)},zG ts nss -> ∀ {Ps:List R},zK (wss.map xg) ts Ps -> Bgs Ps (nss.map List.length)
 | _,_,.nil,Ps,hR => by
   cases hR
   exact trivial
 | _,_,.cons h r,Ps,hR => by
   cases hR with
   | cons h' r' => exact ⟨big h40 h12 hU h h',bigL h40 h12 hU r r'⟩
end
end Sta
namespace JI
open PySem L2 Lin Tre PySem.W
open Sta (R HasR Low Pc zR)
open Prt (over lay lay1 lns pgs Full Fit)
theorem PcR.uniq {res:List (Int × Pc)} {n:List Int} {pcs pcs':List Pc} {m:Nat} (hk:res.map (·.1) = n) (nd:n.Nodup) (h:PcR res pcs m) (h':PcR res pcs' m):pcs = pcs' := by
 refine List.ext_getElem? fun i => ?_
 by_cases c:i < m
 · have e1:pcs[i]? = some (pcs[i]'(by rw [h.1]; exact c)) := List.getElem?_eq_getElem _
   have e2:pcs'[i]? = some (pcs'[i]'(by rw [h'.1]; exact c)) := List.getElem?_eq_getElem _
   have m1 := h.2 i _ e1
   have m2 := h'.2 i _ e2
   rw [e1,e2]
   rw [<- hk] at nd
   have key:∀ {l:List (Int × Pc)},(l.map (·.1)).Nodup -> ∀ {k:Int} {p q:Pc},(k,p) ∈ l -> (k,q) ∈ l -> p = q := by
     intro l
     induction l with
     | nil => intro _ k p q h; cases h
     | cons z r ih =>
       intro nd k p q hp hq
       rw [List.map_cons,List.nodup_cons] at nd
       rcases List.mem_cons.mp hp with e1 | hp2
       · rcases List.mem_cons.mp hq with e2 | hq2
         · rw [<- e1] at e2
           injection e2 with _ e3
           exact e3.symm
         · exact absurd (List.mem_map.mpr ⟨(k,q),hq2,by rw [<- e1]⟩) nd.1
       · rcases List.mem_cons.mp hq with e2 | hq2
         · exact absurd (List.mem_map.mpr ⟨(k,p),hp2,by rw [<- e2]⟩) nd.1
         · exact ih nd.2 hp2 hq2
   rw [key nd m1 m2]
 · rw [List.getElem?_eq_none (by rw [h.1]; omega),List.getElem?_eq_none (by rw [h'.1]; omega)]
def Wm (K:PySem.W.Frag):Sp := fun vs H Q _ => ∃ (a:Addr) (ns:List Int),vs = [.ref a] /\ SqL K H a (ns.map V.int) /\ ns.length <= 63 /\ ∀ H',Q (.bl true) H'
section
variable {P:Program} {w:World} {K:PySem.W.Frag} {mg:Str -> Option Value} {base:Heap} {kA:Addr}
theorem yX:zu ["script","tree","texts","wide","high","handed","due","found","row"] ["script"] (ze sLaw) := ⟨rfl,rfl,rfl,by decide +kernel,rfl,by decide +kernel,by decide +kernel⟩
theorem zbN {f fTr fTx fCo fCe fLv fLh fDu fSe fPd C4 C6 C7:Addr} {fd dTr dTx dCo dCe dLv dLh dDu dSe dPd:FuncData} (F:Fun K "law" "law" sLaw f fd) (Zt:Nt K mg kA) (tmin:mg "min" = none) (Tr:Callee P w K mg base CX0 26 "_law_tree" fTr dTr ["script","first","most"] (Wd K)) (Tx:Callee P w K mg base CX0 3 "_law_texts" fTx dTx ["script","many"] (Xo K))
   (Co:Callee P w K mg base CX0 25 "_law_count" fCo dCo ["shape"] (xH 24)) (Ce:Callee P w K mg base CX0 2 "_law_cell" fCe dCe ["script","k"] (qH K)) (Lv:Callee P w K mg base (CXE P w) 29 "least_wide" fLv dLv ["tree","texts","high"] (Zj C4 C6)) (Lh:Callee P w K mg base (CXE P w) 29 "least_high" fLh dLh ["tree","texts","wide"] (spLh C4 C6))
   (Du:Callee P w K mg base CX0 6 "_law_due" fDu dDu ["boxes","texts","wide","high"] Zp) (Se:Callee P w K mg base (CXE P w) 55 "setting" fSe dSe ["tree","texts","wide","high"] (jY C4 C6 C7)) (Pd:Callee P w K mg base (CXE P w) 56 "printed" fPd dPd ["tree","texts","wide"] (Wl C4 C6 C7)):FnOk P w K mg base CX0 57 f fd ["script"] (Wm K) := by
 obtain ⟨_,_,_,_,_,ti,tint,tbool,tstr,_,tlist,tl,_,_,_,kI,kB,_,_⟩ := Zt
 refine F.ok yX (fun vs H Q E h => ?_) (fun cdv A outer s H vs Q E hr h => ?_)
 · obtain ⟨a,ns,rfl,_⟩ := h
   rfl
 · obtain ⟨a,ns,rfl,hS,h63,q⟩ := h
   refine ⟨_,(zd (zx (i := 1) yX.nd rfl (Or.inl rfl) (zj Tr.ok (hr.mono (show 26 <= 56 by decide)) rfl Tr.bound Tr.kp Tr.bd .nil zB (za (pv 0) (za zh (za (zk zy (zV (za zh (za zh (za zh (za zh zb))))) (zw yr (zj Ce.ok (hr.mono (show 2 <= 56 by decide)) rfl Ce.bound Ce.kp Ce.bd .nil zB (za (pv 0) (za zh zb))) zh) (fun _ _ => rfl)) zb)))))
     (zd (zx (i := 2) yX.nd rfl (Or.inl rfl) (zj Tx.ok (hr.mono (show 3 <= 56 by decide)) rfl Tx.bound Tx.kp Tx.bd .nil zB (za (pv 0) (za (zj Co.ok (hr.mono (show 25 <= 56 by decide)) rfl Co.bound Co.kp Co.bd .nil zB (za (pv 1) zb)) zb))))
     (zd (zx (i := 3) yX.nd rfl (Or.inl rfl) (zj Lv.ok (hr.mono (show 29 <= 56 by decide)) rfl Lv.bound Lv.kp Lv.bd .nil xx (za (pv 1) (za (pv 2) (za zh zb)))))
     (zd (zO (PW.pt (yH (yB (yl (zi yh (by rfl) ti PyProof.Rows.boot_isinstance (za (pv 3) (za (yw rfl tint PyProof.Rows.boot_int) zb))))) (yH (yl (zi yh (by rfl) ti PyProof.Rows.boot_isinstance (za (pv 3) (za (yw rfl tbool PyProof.Rows.boot_bool) zb)))) (yR (zC xv (pv 3) zh (zE _))))))
     (zg (zn wO))
     zH)
     (zd (zx (i := 3) yX.nd rfl (Or.inl rfl) (zi (Wx rfl) (by rfl) tmin PyProof.Rows.boot_min (za zh (za (zw ya (pv 3) (zw yr (zj Ce.ok (hr.mono (show 2 <= 56 by decide)) rfl Ce.bound Ce.kp Ce.bd .nil zB (za (pv 0) (za zh zb))) zh)) zb))))
     (zd (zx (i := 4) yX.nd rfl (Or.inl rfl) (zj Lh.ok (hr.mono (show 29 <= 56 by decide)) rfl Lh.bound Lh.kp Lh.bd .nil xx (za (pv 1) (za (pv 2) (za (pv 3) zb)))))
     (zd (zO (PW.pt (yH (yB (yl (zi yh (by rfl) ti PyProof.Rows.boot_isinstance (za (pv 4) (za (yw rfl tint PyProof.Rows.boot_int) zb))))) (yH (yl (zi yh (by rfl) ti PyProof.Rows.boot_isinstance (za (pv 4) (za (yw rfl tbool PyProof.Rows.boot_bool) zb)))) (yR (zC xv (pv 4) zh (zE _))))))
     (zg (zn wO))
     zH)
     (zd (wu (i := 5) (Nc := ["words"]) (ix := [none]) yX.nd rfl (Or.inl rfl) rfl rfl (by refine' yi ?zz; case zz => exact (pv 2)) (fun _ _ _ _ _ => (zr (i := 0) (by show (["words"]:List Str).Nodup; decide +kernel) rfl (Or.inl rfl))) (fun _ _ _ _ _ => zX) (fun _ _ _ _ _ => (yN (qf (K := K) rfl) rfl tlist PyProof.Rows.boot_list (za (pv 0) zb))))
     (zd (zx (i := 6) yX.nd rfl (Or.inl rfl) (zj Du.ok (hr.mono (show 6 <= 56 by decide)) rfl Du.bound Du.kp Du.bd .nil zB (za (zj Se.ok (hr.mono (show 55 <= 56 by decide)) rfl Se.bound Se.kp Se.bd .nil xx (za (pv 1) (za (pv 2) (za (pv 3) (za (pv 4) zb))))) (za (pv 2) (za (pv 3) (za (pv 4) zb))))))
     (zd (zx (i := 7) yX.nd rfl (Or.inl rfl) (zj Pd.ok hr rfl Pd.bound Pd.kp Pd.bd .nil xx (za (pv 1) (za (pv 5) (za (pv 3) zb)))))
     (zd (zO (PW.pt (yH (zC jF (pv 6) y0 rfl) (yH (yB (yl (zi yh (by rfl) ti PyProof.Rows.boot_isinstance (za (pv 7) (za (yw rfl tlist PyProof.Rows.boot_list) zb))))) (yH (zC (WS hr.units) (pv 7) (pv 6) (zE _)) (yR (zC (WS hr.units) (pv 5) (pv 2) (zE _)))))))
     (zg (zn wO))
     zH)
     (zd (yq PassesOwn.never rfl (yi (pv 7)) (zr (i := 8) yX.nd rfl (Or.inl rfl))
     (zg (zO (yB (yl (zi yh (by rfl) ti PyProof.Rows.boot_isinstance (za (pv 8) (za (yw rfl tstr PyProof.Rows.boot_str) zb)))))
       (zg (zn wO))
       zH)))
     (zd (qh yd (jD (pv 7) zh set_list))
     (zd (z8 (yz PySem.F.plainAttrs_list PySem.F.slot_list_append PySem.F.type_list_append ym (pv 7) (za yd zb)))
     (zg (zn (yJ (Yx hr.units) (zj Pd.ok hr rfl Pd.bound Pd.kp Pd.bd .nil xx (za (pv 1) (za (pv 2) (za (pv 3) zb)))) (pv 6) (zE _)))))))))))))))))),?_⟩
   -- the tree
   refine ⟨_,rfl,by show 4 <= sizeLine; decide,fun pz npz => ?_⟩
   have S1 := zf (o := .lst [V.int 24,V.int 24,V.int 6,V.int 2]) npz
   have hpz:(upd H pz (.lst [V.int 24,V.int 24,V.int 6,V.int 2])) pz = some (.lst [V.int 24,V.int 24,V.int 6,V.int 2]) := zc
   generalize upd H pz (.lst [V.int 24,V.int 24,V.int 6,V.int 2]) = H1 at S1 hpz
   refine ⟨_,rfl,a,ns,2,rfl,S1.seq hS,by decide,by decide,fun c2 => ?_⟩
   obtain ⟨mo,hmo,mo2,mo24⟩ : ∃ mo:Nat,atI [V.int 24,V.int 24,V.int 6,V.int 2] (c2 % 4) = some (.int (mo:Int)) /\ 2 <= mo /\ mo <= 24 := by
     rcases (show c2 % 4 = 0 \/ c2 % 4 = 1 \/ c2 % 4 = 2 \/ c2 % 4 = 3 by omega) with e | e | e | e <;> rw [e]
     · exact ⟨24,rfl,by decide,by decide⟩
     · exact ⟨24,rfl,by decide,by decide⟩
     · exact ⟨6,rfl,by decide,by decide⟩
     · exact ⟨2,rfl,by decide,by decide⟩
   refine ⟨_,_,rfl,rfl,(by show (0:Int) < 4; decide),pz,_,_,_,rfl,rfl,SqL.of hpz,hmo,a,ns,5,mo,rfl,S1.seq hS,h63,by decide,mo2,mo24,fun x t n H2 S2 hA g pm n24 => ?_⟩
   have S12 := S1.trans S2
   refine zF ?_
   try dsimp only
   -- the texts
   have gsz := g.szN
   refine ⟨_,rfl,_,rfl,x,t,n.length,rfl,hA,Shp.XI g,by omega,by decide,fun H3 S3 => ⟨a,ns,n.length,rfl,(S12.trans S3).seq hS,n24,fun lt us wss H4 S4 nlt hlt hT lw _ => ?_⟩⟩
   have S04 := (S12.trans S3).trans S4
   refine zF ?_
   try dsimp only
   have pm':n.Perm (up wss.length) := by rw [lw]; exact pm
   have iT:z4 t := ⟨n,g,n24,pm⟩
   have hA4 := hA.same (S3.trans S4)
   have lu := hT.len
   have rng:∀ i ∈ n,0 <= i /\ i < ((Lvs wss).length:Int) := fun i hi => by
     have := pm'.mem_iff.mp hi
     unfold up at this
     obtain ⟨j,hj,rfl⟩ := List.mem_map.mp this
     have := List.mem_range.mp hj
     unfold Lvs
     rw [List.length_map]
     omega
   obtain ⟨P1,hR⟩ := Sta.Zh (Ls := Lvs wss) g rng
   have hU := y6 wss
   have hup := HasR.up hU hR
   have n1:1 <= n.length := by
     have := gsz
     have := qz t
     omega
   -- the least width
   refine ⟨_,rfl,_,rfl,x,.ref lt,t,50000,rfl,hA4,by omega,.inl ⟨n,lt,us,wss,iT,g,rfl,hlt,hT,by rw [lu,lw],fun P2 o H5 hR2 S5 low => ?_⟩⟩
   obtain rfl := Sta.y7 hR2 hR
   have bg:P2 (12 * n.length) (40 * n.length) := Sta.big hT.ok40 (fun ws hw u hu => (hT.okw ws hw u hu).2.1) hU g hR
   have bg2:P2 (12 * n.length) 50000 := hup.up bg (Nat.le_refl _) (by omega)
   obtain ⟨l0,rfl⟩ := Sta.Qt (P := Sta.tr P2) (w := 50000) (k := 12 * n.length) bg2 low
   have l12:l0 <= 12 * n.length := low.2 _ bg2
   have rm0:P2 l0 50000 := low.1
   have l1 := (hup.pos rm0).1
   refine zF ?_
   rw [show oV (some l0) = V.int ((l0:Nat):Int) from rfl]
   try dsimp only
   refine ⟨_,rfl,_,_,_,_,rfl,rfl,(At.int (H := H5) (l0:Int)).ty,kI _,_,rfl,iteF ?_⟩
   refine ⟨_,rfl,_,_,_,_,rfl,rfl,(At.int (H := H5) (l0:Int)).ty,kB _,_,rfl,iteF ?_⟩
   refine ⟨_,rfl,_,_,rfl,rfl,_,rfl,?_⟩
   rw [decide_eq_false (show ¬ ((l0:Int) < 1) by omega)]
   refine iteF ?_
   refine zY ?_
   try dsimp only
   have S05 := S04.trans S5
   refine ⟨_,rfl,_,rfl,a,ns,3,rfl,S05.seq hS,by decide,by decide,fun c3 => ⟨_,_,rfl,rfl,(by show (0:Int) < 61; decide),_,_,rfl,rfl,_,_,rfl,?_⟩⟩
   have m0 := Int.emod_nonneg c3 (show (61:Int) ≠ 0 by decide)
   obtain ⟨W,hW,W0,W4⟩ : ∃ W:Nat,(if (l0:Int) + c3 % 61 < 400 then (l0:Int) + c3 % 61 else 400) = (W:Int) /\ l0 <= W /\ W <= 400 := by
     split
     · exact ⟨((l0:Int) + c3 % 61).toNat,by omega,by omega,by omega⟩
     · exact ⟨400,rfl,by omega,by omega⟩
   rw [hW]
   refine zF ?_
   try dsimp only
   -- the least height
   refine ⟨_,rfl,_,rfl,_,rfl,x,.ref lt,t,W,rfl,hA4.same S5,by omega,.inl ⟨n,lt,us,wss,iT,g,rfl,S5 _ _ hlt,hT.same S5,by rw [lu,lw],fun P3 o H6 hR3 S6 lowW => ?_⟩⟩
   obtain rfl := Sta.y7 hR3 hR
   obtain ⟨k,rfl⟩ := Sta.Qt (P := P3) (w := W) (k := 50000) (hup.up rm0 W0 (Nat.le_refl _)) lowW
   have rm:P3 W k := lowW.1
   have k1 := (hup.pos rm).2
   have k40:k <= 40 * n.length := lowW.2 _ (Sta.tall hT.ok40 hU g hR W k rm)
   refine zF ?_
   rw [show oV (some k) = V.int ((k:Nat):Int) from rfl]
   try dsimp only
   refine ⟨_,rfl,_,_,_,_,rfl,rfl,(At.int (H := H6) (k:Int)).ty,kI _,_,rfl,iteF ?_⟩
   refine ⟨_,rfl,_,_,_,_,rfl,rfl,(At.int (H := H6) (k:Int)).ty,kB _,_,rfl,iteF ?_⟩
   refine ⟨_,rfl,_,_,rfl,rfl,_,rfl,?_⟩
   rw [decide_eq_false (show ¬ ((k:Int) < 1) by omega)]
   refine iteF ?_
   refine zY ?_
   try dsimp only
   have S46 := S5.trans S6
   have S06 := S04.trans S46
   have hlt6 := S46 _ _ hlt
   have hT6 := hT.same S46
   have hA6 := hA4.same S46
   clear hA4
   -- handed
   refine ⟨_,rfl,lt,rfl,⟨_,SqL.of hlt6⟩,yv (K := K) (a := lt) (xs := us) (fun i ys σ H7 => Txs H7 ys (wss.take i) /\ Same H6 H7 /\ ∃ o,σ = [o]) ⟨.nil,Same.refl _,none,rfl⟩
     (fun i ys σ H7 hi ⟨e,S,_⟩ => ⟨by rw [e.len,List.length_take]; exact Nat.le_trans (show _ <= 1000 by omega) (by decide),SqL.of (S _ _ hlt6)⟩) ?_ ?_⟩
   case refine_2 =>
     rintro i y ys σ H7 hy ⟨hY,S7,o,rfl⟩
     obtain ⟨ws,ew,pa,rfl,hpa,hw,h40⟩ := hT6.get hy
     obtain ⟨hil,ev⟩ := List.getElem?_eq_some_iff.mp ew
     dsimp only [z6,tYes]
     refine iteT ⟨_,rfl,pa,_,rfl,.inl (SqL.of (S7 _ _ hpa)),fun p1 np1 => ?_⟩
     have S8 := zf (o := .lst (tx ws)) np1
     refine ⟨?_,S7.trans S8,_,rfl⟩
     rw [<- List.take_append_getElem hil,ev]
     exact (hY.same S8).snoc ⟨p1,rfl,zc,hw,h40⟩
   rintro ys σ H7 ⟨hY,S7,_⟩ lh nlh
   rw [lu,List.take_length] at hY
   have S68 := S7.trans (zf (o := .lst ys) nlh)
   have hlh:(upd H7 lh (.lst ys)) lh = some (.lst ys) := zc
   have hY8 := hY.same (zf (o := .lst ys) nlh)
   generalize upd H7 lh (.lst ys) = H8 at S68 hlh hY8
   have lys := hY8.len
   have hlt8 := S68 _ _ hlt6
   have hT8 := hT6.same S68
   have hA8 := hA6.same S68
   try dsimp only
   -- due
   obtain ⟨res,hSI⟩ := Sta.Qh hU hR (p := ⟨0,0,W,k⟩) (by unfold Sta.Rm; exact rm) (Nat.zero_le _) (Nat.zero_le _)
   refine ⟨_,rfl,_,rfl,_,rfl,_,rfl,x,.ref lt,t,W,k,rfl,hA8,by omega,.inl ⟨n,lt,us,wss,P3,iT,g,rfl,hlt8,hT8,by rw [lu,lw],hR,.inl ⟨res,rm,hSI,fun D vs pcs H9 S9 nD hD hPc lpc hres => ?_⟩⟩⟩
   have hPR:PcR res pcs n.length := ⟨lpc,hres⟩
   have hF := QF (n := n) hR rm hSI hPR
   have lvs := hPc.len
   refine ⟨_,rfl,_,rfl,_,rfl,D,lt,vs,us,pcs,wss,W,k,rfl,hD,hPc,S9 _ _ hlt8,hT8.same S9,by omega,by omega,by omega,by omega,hF,fun ld H10 S10 nld hld => ?_⟩
   refine zF ?_
   try dsimp only
   rw [show us.length = n.length by omega] at hld
   have S810 := S9.trans S10
   -- found
   refine ⟨_,rfl,_,rfl,_,rfl,x,t,W,n,lh,ys,wss,P3,rfl,hA8.same S810,by omega,iT,g,S810 _ _ hlh,hY8.same S810,by omega,hR,by omega,W4,.inl ⟨k,res,lowW,hSI,fun lf pcs2 H11 S11 nlf hPR2 hlf => ?_⟩⟩
   have ks := zR.keys g hSI
   have nd:n.Nodup := by
     rw [pm.nodup_iff]
     exact YQ _
   obtain rfl := hPR.uniq ks nd hPR2
   refine zF ?_
   try dsimp only
   have S811 := S810.trans S11
   have hld11 := S11 _ _ hld
   refine ⟨_,rfl,rfl,_,rfl,iteF ?_⟩
   refine ⟨_,rfl,_,_,_,_,rfl,rfl,.of (.lst hlf),rfl,_,rfl,iteF ?_⟩
   refine ⟨_,rfl,_,rfl,lf,ld,2,true,rfl,rfl,Yd (SqL.of hlf) (SqL.of hld11),by decide,false,rfl,iteF ?_⟩
   refine ⟨_,rfl,_,rfl,lh,lt,2,true,rfl,rfl,zbx (S811 _ _ hlh) (S811 _ _ hlt8) (hY8.same S811) (hT8.same S811),by decide,false,rfl,iteF ?_⟩
   refine zY ?_
   try dsimp only
   have fl := Prt.qc hF n.length
   -- row by row
   refine ⟨_,rfl,lf,rfl,⟨_,SqL.of hlf⟩,?_⟩
   refine xz (K := K) (a := lf) (xs := tx (pgs W k pcs wss n.length)) (fun i σ H' => ∃ o8:Option V,σ = [some (.ref a),some x,some (.ref lt),some (.int W),some (.int k),some (.ref lh),some (.ref ld),some (.ref lf),o8] /\ H' = H11) ⟨_,rfl,rfl⟩ (fun i σ H' _ ⟨_,_,S⟩ => by rw [S]; exact SqL.of hlf) ?_ ?_
   · rintro i v σ H' hi ⟨o8,rfl,rfl⟩
     obtain ⟨r,er,rfl⟩ := xD hi
     refine zF ?_
     try dsimp only
     exact ⟨_,rfl,_,_,_,_,rfl,rfl,.of (.str _),rfl,_,rfl,iteF ⟨_,rfl,rfl⟩⟩
   rintro σ H' ⟨o8,rfl,rfl⟩
   try dsimp only
   have lne:ld ≠ lf := zI hld nlf
   -- found is changed
   refine ⟨_,rfl,lf,_,_,0,rfl,rfl,hlf,?_,?_⟩
   · rw [zT,fl.1]
     unfold ixN
     rw [if_pos (by decide),if_pos (by omega)]
     rfl
   have S12 := zW (o := .lst ((tx (pgs W k pcs wss n.length)).set 0 (V.str "?"))) S11 nlf
   have hlf12:(upd H' lf (.lst ((tx (pgs W k pcs wss n.length)).set 0 (V.str "?")))) lf = some (.lst ((tx (pgs W k pcs wss n.length)).set 0 (V.str "?"))) := zc
   try dsimp only
   generalize upd H' lf (.lst ((tx (pgs W k pcs wss n.length)).set 0 (V.str "?"))) = H12 at S12 hlf12
   refine ⟨_,rfl,.inl ⟨rfl,_,SqL.of hlf12⟩,lf,_,_,rfl,rfl,hlf12,by rw [List.length_set,zT,fl.1]; exact Nat.lt_of_le_of_lt (show k <= 1000 by omega) (by decide),?_⟩
   have S13 := zW (o := .lst ((tx (pgs W k pcs wss n.length)).set 0 (V.str "?") ++ [V.str "?"])) S12 nlf
   try dsimp only
   generalize upd H12 lf (.lst ((tx (pgs W k pcs wss n.length)).set 0 (V.str "?") ++ [V.str "?"])) = H13 at S13
   have S813 := S810.trans S13
   -- told again
   refine ⟨_,rfl,_,rfl,_,rfl,x,t,W,n,lt,us,wss,P3,rfl,hA8.same S813,by omega,iT,g,S813 _ _ hlt8,hT8.same S813,by omega,hR,by omega,W4,.inl ⟨k,res,lowW,hSI,fun l2 pcs3 H14 S14 nl2 hPR3 hl2 => ?_⟩⟩
   obtain rfl := hPR.uniq ks nd hPR3
   exact ⟨_,rfl,l2,ld,2,true,rfl,rfl,Yd (SqL.of hl2) (SqL.of (S14 _ _ (S13 _ _ hld))),by decide,q _⟩
end
end JI
namespace L2
open PySem PySem.Spec PyProof.Rows
end L2
namespace JI
open PySem L2 Tre
theorem bl1 {α:Type} {p:List α -> Prop} {us:List α} (hl:us.length = 1) (q:∀ a0,p [a0]):p us := match us,hl with
 | [a0],_ => q a0
theorem bl2 {α:Type} {p:List α -> Prop} {us:List α} (hl:us.length = 2) (q:∀ a0 a1,p [a0,a1]):p us := match us,hl with
 | [a0,a1],_ => q a0 a1
theorem bl3 {α:Type} {p:List α -> Prop} {us:List α} (hl:us.length = 3) (q:∀ a0 a1 a2,p [a0,a1,a2]):p us := match us,hl with
 | [a0,a1,a2],_ => q a0 a1 a2
theorem bl4 {α:Type} {p:List α -> Prop} {us:List α} (hl:us.length = 4) (q:∀ a0 a1 a2 a3,p [a0,a1,a2,a3]):p us := match us,hl with
 | [a0,a1,a2,a3],_ => q a0 a1 a2 a3
theorem all_mk {l:PySem.W.OpenLaw} {w:World} {K:PySem.W.Frag} {h:Heap} {mg:Str -> Option Value} {fa  f0 f1 f2 f3 f4 f5 f6 f7 f8 f9 f10 f11 f12 f13 f14 f15 f16 f17 f18 f19 f20 f21 f22 f23 f24 f25 f26 f27 f28 f29 f30 f31 f32 f33 f34 f35 f36 f37 f38 f39 f40 f41 f42 f43 f44 f45 f46 f47 C0 C1 C2 C3:Addr} (X:K.In h) (G:h.Ns mainGlobals mg) (hfa:mg "law" = some (.ref fa))
   {od0 od1 od2 od3 od4 od5 od6 od7 od8 od9 od10 od11 od12 od13 od14 od15 od16 od17 od18 od19 od20 od21 od22 od23 od24 od25 od26 od27 od28 od29 od30 od31 od32 od33 od34 od35 od36 od37 od38 od39 od40 od41 od42 od43 od44 od45 od46 od47 an0 an1 an2 an3 an4 an5 an6 an7 an8 an9 an10 an11 an12 an13 an14 an15 an16 an17 an18 an19 an20 an21 an22 an23 an24 an25 an26 an27 an28 an29 an30 an31 an32 an33 an34 an35 an36 an37 an38 an39 an40 an41 an42 an43 an44 an45 an46 an47:Option Addr} {sl0 sl1 sl2 sl3 sl4 sl5 sl6 sl7 sl8 sl9 sl10 sl11 sl12 sl13 sl14 sl15 sl16 sl17 sl18 sl19 sl20 sl21 sl22 sl23 sl24 sl25 sl26 sl27 sl28 sl29 sl30 sl31 sl32 sl33 sl34 sl35 sl36 sl37 sl38 sl39 sl40 sl41 sl42 sl43 sl44 sl45 sl46 sl47:Array (Option Value)} {oc0 kV0 dc0 pm0 cd0 ct0 oc1 kV1 dc1 pm1 cd1 ct1 oc2 kV2 dc2 pm2 cd2 ct2 oc3 kV3 dc3 pm3 cd3 ct3 oc4 kV4 dc4 pm4 cd4 ct4 oc5 kV5 dc5 pm5 cd5 ct5 oc6 kV6 dc6 pm6 cd6 ct6 oc7 kV7 dc7 pm7 cd7 ct7 oc8 kV8 dc8 pm8 cd8 ct8 oc9 kV9 dc9 pm9 cd9 ct9 oc10 kV10 dc10 pm10 cd10 ct10 oc11 kV11 dc11 pm11 cd11 ct11 oc12 kV12 dc12 pm12 cd12 ct12 oc13 kV13 dc13 pm13 cd13 ct13 oc14 kV14 dc14 pm14 cd14 ct14 oc15 kV15 dc15 pm15 cd15 ct15 oc16 kV16 dc16 pm16 cd16 ct16 oc17 kV17 dc17 pm17 cd17 ct17 oc18 kV18 dc18 pm18 cd18 ct18 oc19 kV19 dc19 pm19 cd19 ct19 oc20 kV20 dc20 pm20 cd20 ct20 oc21 kV21 dc21 pm21 cd21 ct21 oc22 kV22 dc22 pm22 cd22 ct22 oc23 kV23 dc23 pm23 cd23 ct23 oc24 kV24 dc24 pm24 cd24 ct24 oc25 kV25 dc25 pm25 cd25 ct25 oc26 kV26 dc26 pm26 cd26 ct26 oc27 kV27 dc27 pm27 cd27 ct27 oc28 kV28 dc28 pm28 cd28 ct28 oc29 kV29 dc29 pm29 cd29 ct29 oc30 kV30 dc30 pm30 cd30 ct30 oc31 kV31 dc31 pm31 cd31 ct31 oc32 kV32 dc32 pm32 cd32 ct32 oc33 kV33 dc33 pm33 cd33 ct33 oc34 kV34 dc34 pm34 cd34 ct34 oc35 kV35 dc35 pm35 cd35 ct35 oc36 kV36 dc36 pm36 cd36 ct36 oc37 kV37 dc37 pm37 cd37 ct37 oc38 kV38 dc38 pm38 cd38 ct38 oc39 kV39 dc39 pm39 cd39 ct39 oc40 kV40 dc40 pm40 cd40 ct40 oc41 kV41 dc41 pm41 cd41 ct41 oc42 kV42 dc42 pm42 cd42 ct42 oc43 kV43 dc43 pm43 cd43 ct43 oc44 kV44 dc44 pm44 cd44 ct44 oc45 kV45 dc45 pm45 cd45 ct45 oc46 kV46 dc46 pm46 cd46 ct46 oc47 kV47 dc47 pm47 cd47 ct47:Value} {kA:Addr} {odK:Option Addr} {nK:Nat} {slK:Array (Option Value)} {tk1 tk2:Tok} {t_LEFT_OUT t_MOST_SIGNS t_KIND t_PARTS t_MOST_BOXES t_WIDE t_HIGH t_MOST_WORDS t_LEFT t_TOP t_RIGHT t_BELOW t_MOST_WIDE t_ACROSS:Tok}
   (a0:PySem.W.nsIn K mainGlobals "is_sign" = some (some (.ref f0)))
   (l0:K.lookup f0 = some ⟨oc0,od0,.func (PySem.W.fnOf "is_sign" "is_sign" (zt qM) (zo qM) (ze qM) .none kV0 dc0 pm0 an0 cd0 ct0),sl0⟩)
   (c0:PySem.W.codeIn K cd0 "is_sign" = true)
   (k0:PySem.W.keepIn K (.ref f0) = true)
   (a1:PySem.W.nsIn K mainGlobals "is_word" = some (some (.ref f1)))
   (l1:K.lookup f1 = some ⟨oc1,od1,.func (PySem.W.fnOf "is_word" "is_word" (zt qN) (zo qN) (ze qN) .none kV1 dc1 pm1 an1 cd1 ct1),sl1⟩)
   (c1:PySem.W.codeIn K cd1 "is_word" = true)
   (k1:PySem.W.keepIn K (.ref f1) = true)
   (a2:PySem.W.nsIn K mainGlobals "are_words" = some (some (.ref f2)))
   (l2:K.lookup f2 = some ⟨oc2,od2,.func (PySem.W.fnOf "are_words" "are_words" (zt sAre) (zo sAre) (ze sAre) .none kV2 dc2 pm2 an2 cd2 ct2),sl2⟩)
   (c2:PySem.W.codeIn K cd2 "are_words" = true)
   (k2:PySem.W.keepIn K (.ref f2) = true)
   (a3:PySem.W.nsIn K mainGlobals "refuse_no_words" = some (some (.ref f3)))
   (l3:K.lookup f3 = some ⟨oc3,od3,.func (PySem.W.fnOf "refuse_no_words" "refuse_no_words" (zt xT) (zo xT) (ze xT) .none kV3 dc3 pm3 an3 cd3 ct3),sl3⟩)
   (c3:PySem.W.codeIn K cd3 "refuse_no_words" = true)
   (k3:PySem.W.keepIn K (.ref f3) = true)
   (a4:PySem.W.nsIn K mainGlobals "taken" = some (some (.ref f4)))
   (l4:K.lookup f4 = some ⟨oc4,od4,.func (PySem.W.fnOf "taken" "taken" (zt wz) (zo wz) (ze wz) .none kV4 dc4 pm4 an4 cd4 ct4),sl4⟩)
   (c4:PySem.W.codeIn K cd4 "taken" = true)
   (k4:PySem.W.keepIn K (.ref f4) = true)
   (a5:PySem.W.nsIn K mainGlobals "lines" = some (some (.ref f5)))
   (l5:K.lookup f5 = some ⟨oc5,od5,.func (PySem.W.fnOf "lines" "lines" (zt wA) (zo wA) (ze wA) .none kV5 dc5 pm5 an5 cd5 ct5),sl5⟩)
   (c5:PySem.W.codeIn K cd5 "lines" = true)
   (k5:PySem.W.keepIn K (.ref f5) = true)
   (a6:PySem.W.nsIn K mainGlobals "with_next_word" = some (some (.ref f6)))
   (l6:K.lookup f6 = some ⟨oc6,od6,.func (PySem.W.fnOf "with_next_word" "with_next_word" (zt qO) (zo qO) (ze qO) .none kV6 dc6 pm6 an6 cd6 ct6),sl6⟩)
   (c6:PySem.W.codeIn K cd6 "with_next_word" = true)
   (k6:PySem.W.keepIn K (.ref f6) = true)
   (a7:PySem.W.nsIn K mainGlobals "next_width" = some (some (.ref f7)))
   (l7:K.lookup f7 = some ⟨oc7,od7,.func (PySem.W.fnOf "next_width" "next_width" (zt wB) (zo wB) (ze wB) .none kV7 dc7 pm7 an7 cd7 ct7),sl7⟩)
   (c7:PySem.W.codeIn K cd7 "next_width" = true)
   (k7:PySem.W.keepIn K (.ref f7) = true)
   (a8:PySem.W.nsIn K mainGlobals "text_stairs" = some (some (.ref f8)))
   (l8:K.lookup f8 = some ⟨oc8,od8,.func (PySem.W.fnOf "text_stairs" "text_stairs" (zt xU) (zo xU) (ze xU) .none kV8 dc8 pm8 an8 cd8 ct8),sl8⟩)
   (c8:PySem.W.codeIn K cd8 "text_stairs" = true)
   (k8:PySem.W.keepIn K (.ref f8) = true)
   (a9:PySem.W.nsIn K mainGlobals "is_whole" = some (some (.ref f9)))
   (l9:K.lookup f9 = some ⟨oc9,od9,.func (PySem.W.fnOf "is_whole" "is_whole" (zt wC) (zo wC) (ze wC) .none kV9 dc9 pm9 an9 cd9 ct9),sl9⟩)
   (c9:PySem.W.codeIn K cd9 "is_whole" = true)
   (k9:PySem.W.keepIn K (.ref f9) = true)
   (a10:PySem.W.nsIn K mainGlobals "has_kind" = some (some (.ref f10)))
   (l10:K.lookup f10 = some ⟨oc10,od10,.func (PySem.W.fnOf "has_kind" "has_kind" (zt sHas) (zo sHas) (ze sHas) .none kV10 dc10 pm10 an10 cd10 ct10),sl10⟩)
   (c10:PySem.W.codeIn K cd10 "has_kind" = true)
   (k10:PySem.W.keepIn K (.ref f10) = true)
   (a11:PySem.W.nsIn K mainGlobals "is_branch" = some (some (.ref f11)))
   (l11:K.lookup f11 = some ⟨oc11,od11,.func (PySem.W.fnOf "is_branch" "is_branch" (zt sBr) (zo sBr) (ze sBr) .none kV11 dc11 pm11 an11 cd11 ct11),sl11⟩)
   (c11:PySem.W.codeIn K cd11 "is_branch" = true)
   (k11:PySem.W.keepIn K (.ref f11) = true)
   (a12:PySem.W.nsIn K mainGlobals "numbers_in" = some (some (.ref f12)))
   (l12:K.lookup f12 = some ⟨oc12,od12,.func (PySem.W.fnOf "numbers_in" "numbers_in" (zt sNum) (zo sNum) (ze sNum) .none kV12 dc12 pm12 an12 cd12 ct12),sl12⟩)
   (c12:PySem.W.codeIn K cd12 "numbers_in" = true)
   (k12:PySem.W.keepIn K (.ref f12) = true)
   (a13:PySem.W.nsIn K mainGlobals "is_tree" = some (some (.ref f13)))
   (l13:K.lookup f13 = some ⟨oc13,od13,.func (PySem.W.fnOf "is_tree" "is_tree" (zt qP) (zo qP) (ze qP) .none kV13 dc13 pm13 an13 cd13 ct13),sl13⟩)
   (c13:PySem.W.codeIn K cd13 "is_tree" = true)
   (k13:PySem.W.keepIn K (.ref f13) = true)
   (a14:PySem.W.nsIn K mainGlobals "refuse_no_tree" = some (some (.ref f14)))
   (l14:K.lookup f14 = some ⟨oc14,od14,.func (PySem.W.fnOf "refuse_no_tree" "refuse_no_tree" (zt qQ) (zo qQ) (ze qQ) .none kV14 dc14 pm14 an14 cd14 ct14),sl14⟩)
   (c14:PySem.W.codeIn K cd14 "refuse_no_tree" = true)
   (k14:PySem.W.keepIn K (.ref f14) = true)
   (a15:PySem.W.nsIn K mainGlobals "boxes_of" = some (some (.ref f15)))
   (l15:K.lookup f15 = some ⟨oc15,od15,.func (PySem.W.fnOf "boxes_of" "boxes_of" (zt wE) (zo wE) (ze wE) .none kV15 dc15 pm15 an15 cd15 ct15),sl15⟩)
   (c15:PySem.W.codeIn K cd15 "boxes_of" = true)
   (k15:PySem.W.keepIn K (.ref f15) = true)
   (a16:PySem.W.nsIn K mainGlobals "is_text" = some (some (.ref f16)))
   (l16:K.lookup f16 = some ⟨oc16,od16,.func (PySem.W.fnOf "is_text" "is_text" (zt qT) (zo qT) (ze qT) .none kV16 dc16 pm16 an16 cd16 ct16),sl16⟩)
   (c16:PySem.W.codeIn K cd16 "is_text" = true)
   (k16:PySem.W.keepIn K (.ref f16) = true)
   (a17:PySem.W.nsIn K mainGlobals "refuse_no_texts" = some (some (.ref f17)))
   (l17:K.lookup f17 = some ⟨oc17,od17,.func (PySem.W.fnOf "refuse_no_texts" "refuse_no_texts" (zt sRTx) (zo sRTx) (ze sRTx) .none kV17 dc17 pm17 an17 cd17 ct17),sl17⟩)
   (c17:PySem.W.codeIn K cd17 "refuse_no_texts" = true)
   (k17:PySem.W.keepIn K (.ref f17) = true)
   (a18:PySem.W.nsIn K mainGlobals "side_by_side" = some (some (.ref f18)))
   (l18:K.lookup f18 = some ⟨oc18,od18,.func (PySem.W.fnOf "side_by_side" "side_by_side" (zt sSbs) (zo sSbs) (ze sSbs) .none kV18 dc18 pm18 an18 cd18 ct18),sl18⟩)
   (c18:PySem.W.codeIn K cd18 "side_by_side" = true)
   (k18:PySem.W.keepIn K (.ref f18) = true)
   (a19:PySem.W.nsIn K mainGlobals "all_side_by_side" = some (some (.ref f19)))
   (l19:K.lookup f19 = some ⟨oc19,od19,.func (PySem.W.fnOf "all_side_by_side" "all_side_by_side" (zt sAll) (zo sAll) (ze sAll) .none kV19 dc19 pm19 an19 cd19 ct19),sl19⟩)
   (c19:PySem.W.codeIn K cd19 "all_side_by_side" = true)
   (k19:PySem.W.keepIn K (.ref f19) = true)
   (a20:PySem.W.nsIn K mainGlobals "exchanged" = some (some (.ref f20)))
   (l20:K.lookup f20 = some ⟨oc20,od20,.func (PySem.W.fnOf "exchanged" "exchanged" (zt qU) (zo qU) (ze qU) .none kV20 dc20 pm20 an20 cd20 ct20),sl20⟩)
   (c20:PySem.W.codeIn K cd20 "exchanged" = true)
   (k20:PySem.W.keepIn K (.ref f20) = true)
   (a21:PySem.W.nsIn K mainGlobals "box_stairs" = some (some (.ref f21)))
   (l21:K.lookup f21 = some ⟨oc21,od21,.func (PySem.W.fnOf "box_stairs" "box_stairs" (zt sBst) (zo sBst) (ze sBst) .none kV21 dc21 pm21 an21 cd21 ct21),sl21⟩)
   (c21:PySem.W.codeIn K cd21 "box_stairs" = true)
   (k21:PySem.W.keepIn K (.ref f21) = true)
   (a22:PySem.W.nsIn K mainGlobals "stairs_of" = some (some (.ref f22)))
   (l22:K.lookup f22 = some ⟨oc22,od22,.func (PySem.W.fnOf "stairs_of" "stairs_of" (zt sSo) (zo sSo) (ze sSo) .none kV22 dc22 pm22 an22 cd22 ct22),sl22⟩)
   (c22:PySem.W.codeIn K cd22 "stairs_of" = true)
   (k22:PySem.W.keepIn K (.ref f22) = true)
   (a23:PySem.W.nsIn K mainGlobals "tree_stairs" = some (some (.ref f23)))
   (l23:K.lookup f23 = some ⟨oc23,od23,.func (PySem.W.fnOf "tree_stairs" "tree_stairs" (zt sTst) (zo sTst) (ze sTst) .none kV23 dc23 pm23 an23 cd23 ct23),sl23⟩)
   (c23:PySem.W.codeIn K cd23 "tree_stairs" = true)
   (k23:PySem.W.keepIn K (.ref f23) = true)
   (a24:PySem.W.nsIn K mainGlobals "lowest" = some (some (.ref f24)))
   (l24:K.lookup f24 = some ⟨oc24,od24,.func (PySem.W.fnOf "lowest" "lowest" (zt sLow) (zo sLow) (ze sLow) .none kV24 dc24 pm24 an24 cd24 ct24),sl24⟩)
   (c24:PySem.W.codeIn K cd24 "lowest" = true)
   (k24:PySem.W.keepIn K (.ref f24) = true)
   (a25:PySem.W.nsIn K mainGlobals "narrowest" = some (some (.ref f25)))
   (l25:K.lookup f25 = some ⟨oc25,od25,.func (PySem.W.fnOf "narrowest" "narrowest" (zt qV) (zo qV) (ze qV) .none kV25 dc25 pm25 an25 cd25 ct25),sl25⟩)
   (c25:PySem.W.codeIn K cd25 "narrowest" = true)
   (k25:PySem.W.keepIn K (.ref f25) = true)
   (a26:PySem.W.nsIn K mainGlobals "least_high" = some (some (.ref f26)))
   (l26:K.lookup f26 = some ⟨oc26,od26,.func (PySem.W.fnOf "least_high" "least_high" (zt sLh) (zo sLh) (ze sLh) .none kV26 dc26 pm26 an26 cd26 ct26),sl26⟩)
   (c26:PySem.W.codeIn K cd26 "least_high" = true)
   (k26:PySem.W.keepIn K (.ref f26) = true)
   (a27:PySem.W.nsIn K mainGlobals "least_wide" = some (some (.ref f27)))
   (l27:K.lookup f27 = some ⟨oc27,od27,.func (PySem.W.fnOf "least_wide" "least_wide" (zt wF) (zo wF) (ze wF) .none kV27 dc27 pm27 an27 cd27 ct27),sl27⟩)
   (c27:PySem.W.codeIn K cd27 "least_wide" = true)
   (k27:PySem.W.keepIn K (.ref f27) = true)
   (a28:PySem.W.nsIn K mainGlobals "edges" = some (some (.ref f28)))
   (l28:K.lookup f28 = some ⟨oc28,od28,.func (PySem.W.fnOf "edges" "edges" (zt wG) (zo wG) (ze wG) .none kV28 dc28 pm28 an28 cd28 ct28),sl28⟩)
   (c28:PySem.W.codeIn K cd28 "edges" = true)
   (k28:PySem.W.keepIn K (.ref f28) = true)
   (a29:PySem.W.nsIn K mainGlobals "pieces_across" = some (some (.ref f29)))
   (l29:K.lookup f29 = some ⟨oc29,od29,.func (PySem.W.fnOf "pieces_across" "pieces_across" (zt sPa) (zo sPa) (ze sPa) .none kV29 dc29 pm29 an29 cd29 ct29),sl29⟩)
   (c29:PySem.W.codeIn K cd29 "pieces_across" = true)
   (k29:PySem.W.keepIn K (.ref f29) = true)
   (a30:PySem.W.nsIn K mainGlobals "pieces_down" = some (some (.ref f30)))
   (l30:K.lookup f30 = some ⟨oc30,od30,.func (PySem.W.fnOf "pieces_down" "pieces_down" (zt sPd) (zo sPd) (ze sPd) .none kV30 dc30 pm30 an30 cd30 ct30),sl30⟩)
   (c30:PySem.W.codeIn K cd30 "pieces_down" = true)
   (k30:PySem.W.keepIn K (.ref f30) = true)
   (a31:PySem.W.nsIn K mainGlobals "pieces_of" = some (some (.ref f31)))
   (l31:K.lookup f31 = some ⟨oc31,od31,.func (PySem.W.fnOf "pieces_of" "pieces_of" (zt sPo) (zo sPo) (ze sPo) .none kV31 dc31 pm31 an31 cd31 ct31),sl31⟩)
   (c31:PySem.W.codeIn K cd31 "pieces_of" = true)
   (k31:PySem.W.keepIn K (.ref f31) = true)
   (a32:PySem.W.nsIn K mainGlobals "set_in" = some (some (.ref f32)))
   (l32:K.lookup f32 = some ⟨oc32,od32,.func (PySem.W.fnOf "set_in" "set_in" (zt xL) (zo xL) (ze xL) .none kV32 dc32 pm32 an32 cd32 ct32),sl32⟩)
   (c32:PySem.W.codeIn K cd32 "set_in" = true)
   (k32:PySem.W.keepIn K (.ref f32) = true)
   (a33:PySem.W.nsIn K mainGlobals "height_in" = some (some (.ref f33)))
   (l33:K.lookup f33 = some ⟨oc33,od33,.func (PySem.W.fnOf "height_in" "height_in" (zt sHin) (zo sHin) (ze sHin) .none kV33 dc33 pm33 an33 cd33 ct33),sl33⟩)
   (c33:PySem.W.codeIn K cd33 "height_in" = true)
   (k33:PySem.W.keepIn K (.ref f33) = true)
   (a34:PySem.W.nsIn K mainGlobals "setting" = some (some (.ref f34)))
   (l34:K.lookup f34 = some ⟨oc34,od34,.func (PySem.W.fnOf "setting" "setting" (zt xC) (zo xC) (ze xC) .none kV34 dc34 pm34 an34 cd34 ct34),sl34⟩)
   (c34:PySem.W.codeIn K cd34 "setting" = true)
   (k34:PySem.W.keepIn K (.ref f34) = true)
   (a35:PySem.W.nsIn K mainGlobals "laid_over" = some (some (.ref f35)))
   (l35:K.lookup f35 = some ⟨oc35,od35,.func (PySem.W.fnOf "laid_over" "laid_over" (zt sLov) (zo sLov) (ze sLov) .none kV35 dc35 pm35 an35 cd35 ct35),sl35⟩)
   (c35:PySem.W.codeIn K cd35 "laid_over" = true)
   (k35:PySem.W.keepIn K (.ref f35) = true)
   (a36:PySem.W.nsIn K mainGlobals "printed" = some (some (.ref f36)))
   (l36:K.lookup f36 = some ⟨oc36,od36,.func (PySem.W.fnOf "printed" "printed" (zt sPrd) (zo sPrd) (ze sPrd) .none kV36 dc36 pm36 an36 cd36 ct36),sl36⟩)
   (c36:PySem.W.codeIn K cd36 "printed" = true)
   (k36:PySem.W.keepIn K (.ref f36) = true)
   (a37:PySem.W.nsIn K mainGlobals "_law_stir" = some (some (.ref f37)))
   (l37:K.lookup f37 = some ⟨oc37,od37,.func (PySem.W.fnOf "_law_stir" "_law_stir" (zt qR) (zo qR) (ze qR) .none kV37 dc37 pm37 an37 cd37 ct37),sl37⟩)
   (c37:PySem.W.codeIn K cd37 "_law_stir" = true)
   (k37:PySem.W.keepIn K (.ref f37) = true)
   (a38:PySem.W.nsIn K mainGlobals "_law_cell" = some (some (.ref f38)))
   (l38:K.lookup f38 = some ⟨oc38,od38,.func (PySem.W.fnOf "_law_cell" "_law_cell" (zt qS) (zo qS) (ze qS) .none kV38 dc38 pm38 an38 cd38 ct38),sl38⟩)
   (c38:PySem.W.codeIn K cd38 "_law_cell" = true)
   (k38:PySem.W.keepIn K (.ref f38) = true)
   (a39:PySem.W.nsIn K mainGlobals "_law_lack" = some (some (.ref f39)))
   (l39:K.lookup f39 = some ⟨oc39,od39,.func (PySem.W.fnOf "_law_lack" "_law_lack" (zt jb) (zo jb) (ze jb) .none kV39 dc39 pm39 an39 cd39 ct39),sl39⟩)
   (c39:PySem.W.codeIn K cd39 "_law_lack" = true)
   (k39:PySem.W.keepIn K (.ref f39) = true)
   (a40:PySem.W.nsIn K mainGlobals "_law_shape" = some (some (.ref f40)))
   (l40:K.lookup f40 = some ⟨oc40,od40,.func (PySem.W.fnOf "_law_shape" "_law_shape" (zt wL) (zo wL) (ze wL) .none kV40 dc40 pm40 an40 cd40 ct40),sl40⟩)
   (c40:PySem.W.codeIn K cd40 "_law_shape" = true)
   (k40:PySem.W.keepIn K (.ref f40) = true)
   (a41:PySem.W.nsIn K mainGlobals "_law_count" = some (some (.ref f41)))
   (l41:K.lookup f41 = some ⟨oc41,od41,.func (PySem.W.fnOf "_law_count" "_law_count" (zt xM) (zo xM) (ze xM) .none kV41 dc41 pm41 an41 cd41 ct41),sl41⟩)
   (c41:PySem.W.codeIn K cd41 "_law_count" = true)
   (k41:PySem.W.keepIn K (.ref f41) = true)
   (a42:PySem.W.nsIn K mainGlobals "_law_numbered" = some (some (.ref f42)))
   (l42:K.lookup f42 = some ⟨oc42,od42,.func (PySem.W.fnOf "_law_numbered" "_law_numbered" (zt xN) (zo xN) (ze xN) .none kV42 dc42 pm42 an42 cd42 ct42),sl42⟩)
   (c42:PySem.W.codeIn K cd42 "_law_numbered" = true)
   (k42:PySem.W.keepIn K (.ref f42) = true)
   (a43:PySem.W.nsIn K mainGlobals "_law_tree" = some (some (.ref f43)))
   (l43:K.lookup f43 = some ⟨oc43,od43,.func (PySem.W.fnOf "_law_tree" "_law_tree" (zt wD) (zo wD) (ze wD) .none kV43 dc43 pm43 an43 cd43 ct43),sl43⟩)
   (c43:PySem.W.codeIn K cd43 "_law_tree" = true)
   (k43:PySem.W.keepIn K (.ref f43) = true)
   (a44:PySem.W.nsIn K mainGlobals "_law_word" = some (some (.ref f44)))
   (l44:K.lookup f44 = some ⟨oc44,od44,.func (PySem.W.fnOf "_law_word" "_law_word" (zt sLw) (zo sLw) (ze sLw) .none kV44 dc44 pm44 an44 cd44 ct44),sl44⟩)
   (c44:PySem.W.codeIn K cd44 "_law_word" = true)
   (k44:PySem.W.keepIn K (.ref f44) = true)
   (a45:PySem.W.nsIn K mainGlobals "_law_texts" = some (some (.ref f45)))
   (l45:K.lookup f45 = some ⟨oc45,od45,.func (PySem.W.fnOf "_law_texts" "_law_texts" (zt (top 73)) (zo (top 73)) (ze (top 73)) .none kV45 dc45 pm45 an45 cd45 ct45),sl45⟩)
   (c45:PySem.W.codeIn K cd45 "_law_texts" = true)
   (k45:PySem.W.keepIn K (.ref f45) = true)
   (a46:PySem.W.nsIn K mainGlobals "_law_due" = some (some (.ref f46)))
   (l46:K.lookup f46 = some ⟨oc46,od46,.func (PySem.W.fnOf "_law_due" "_law_due" (zt (top 74)) (zo (top 74)) (ze (top 74)) .none kV46 dc46 pm46 an46 cd46 ct46),sl46⟩)
   (c46:PySem.W.codeIn K cd46 "_law_due" = true)
   (k46:PySem.W.keepIn K (.ref f46) = true)
   (a47:PySem.W.nsIn K mainGlobals "law" = some (some (.ref f47)))
   (l47:K.lookup f47 = some ⟨oc47,od47,.func (PySem.W.fnOf "law" "law" (zt sLaw) (zo sLaw) (ze sLaw) .none kV47 dc47 pm47 an47 cd47 ct47),sl47⟩)
   (c47:PySem.W.codeIn K cd47 "law" = true)
   (k47:PySem.W.keepIn K (.ref f47) = true)
   (C0m:PySem.W.nsIn K mainGlobals "PartError" = some (some (.ref C0)))
   (C1m:PySem.W.nsIn K mainGlobals "NoTree" = some (some (.ref C1)))
   (C2m:PySem.W.nsIn K mainGlobals "NoTexts" = some (some (.ref C2)))
   (C3m:PySem.W.nsIn K mainGlobals "NoRoom" = some (some (.ref C3)))
   (z_len:PySem.W.nsIn K mainGlobals "len" = some none)
   (z_range:PySem.W.nsIn K mainGlobals "range" = some none)
   (z_min:PySem.W.nsIn K mainGlobals "min" = some none)
   (z_max:PySem.W.nsIn K mainGlobals "max" = some none)
   (z_sum:PySem.W.nsIn K mainGlobals "sum" = some none)
   (z_zip:PySem.W.nsIn K mainGlobals "zip" = some none)
   (z_isinstance:PySem.W.nsIn K mainGlobals "isinstance" = some none)
   (z_int:PySem.W.nsIn K mainGlobals "int" = some none)
   (z_bool:PySem.W.nsIn K mainGlobals "bool" = some none)
   (z_str:PySem.W.nsIn K mainGlobals "str" = some none)
   (z_tuple:PySem.W.nsIn K mainGlobals "tuple" = some none)
   (z_list:PySem.W.nsIn K mainGlobals "list" = some none)
   (z_all:PySem.W.nsIn K mainGlobals "all" = some none)
   (z_any:PySem.W.nsIn K mainGlobals "any" = some none)
   (z_ord:PySem.W.nsIn K mainGlobals "ord" = some none)
   (z_sorted:PySem.W.nsIn K mainGlobals "sorted" = some none)
   (z_reversed:PySem.W.nsIn K mainGlobals "reversed" = some none)
   (z_enumerate:PySem.W.nsIn K mainGlobals "enumerate" = some none)
   (g_LEFT_OUT:PySem.W.nsIn K mainGlobals "LEFT_OUT" = some (some (.int 37 t_LEFT_OUT)))
   (g_MOST_SIGNS:PySem.W.nsIn K mainGlobals "MOST_SIGNS" = some (some (.int 12 t_MOST_SIGNS)))
   (g_KIND:PySem.W.nsIn K mainGlobals "KIND" = some (some (.int 0 t_KIND)))
   (g_PARTS:PySem.W.nsIn K mainGlobals "PARTS" = some (some (.int 1 t_PARTS)))
   (g_MOST_BOXES:PySem.W.nsIn K mainGlobals "MOST_BOXES" = some (some (.int 24 t_MOST_BOXES)))
   (g_WIDE:PySem.W.nsIn K mainGlobals "WIDE" = some (some (.int 0 t_WIDE)))
   (g_HIGH:PySem.W.nsIn K mainGlobals "HIGH" = some (some (.int 1 t_HIGH)))
   (g_MOST_WORDS:PySem.W.nsIn K mainGlobals "MOST_WORDS" = some (some (.int 40 t_MOST_WORDS)))
   (g_LEFT:PySem.W.nsIn K mainGlobals "LEFT" = some (some (.int 0 t_LEFT)))
   (g_TOP:PySem.W.nsIn K mainGlobals "TOP" = some (some (.int 1 t_TOP)))
   (g_RIGHT:PySem.W.nsIn K mainGlobals "RIGHT" = some (some (.int 2 t_RIGHT)))
   (g_BELOW:PySem.W.nsIn K mainGlobals "BELOW" = some (some (.int 3 t_BELOW)))
   (g_MOST_WIDE:PySem.W.nsIn K mainGlobals "MOST_WIDE" = some (some (.int 400 t_MOST_WIDE)))
   (g_ACROSS:PySem.W.nsIn K mainGlobals "ACROSS" = some (some (.str "|" t_ACROSS)))
   (ex1:PySem.W.excIn K C1 [.type "ValueError",.type "Exception",.type "BaseException",.type "object"] "ValueError.__new__" = true)
   (ex2:PySem.W.excIn K C2 [.type "ValueError",.type "Exception",.type "BaseException",.type "object"] "ValueError.__new__" = true)
   (ex3:PySem.W.excIn K C3 [.type "ValueError",.type "Exception",.type "BaseException",.type "object"] "ValueError.__new__" = true)
   (hKINDS:PySem.W.nsIn K mainGlobals "KINDS" = some (some (.ref kA)))
   (lkK:K.lookup kA = some ⟨.type "tuple",odK,.seq #[.str "|" tk1,.str "-" tk2] nK,slK⟩)
   (kt0:PySem.W.kitOne K (.type "NoneType") (.type "str") = some false)
   (kt1:PySem.W.kitOne K (.type "bool") (.type "str") = some false)
   (kt2:PySem.W.kitOne K (.type "int") (.type "str") = some false)
   (kt3:PySem.W.kitOne K (.type "list") (.type "str") = some false)
   (kt4:PySem.W.kitOne K (.type "tuple") (.type "str") = some false)
   (kt5:PySem.W.kitOne K (.type "dict") (.type "str") = some false)
   (kt6:PySem.W.kitOne K (.type "NoneType") (.type "list") = some false)
   (kt7:PySem.W.kitOne K (.type "str") (.type "list") = some false)
   (kt8:PySem.W.kitOne K (.type "int") (.type "list") = some false)
   (kt9:PySem.W.kitOne K (.type "tuple") (.type "list") = some false)
   (kt10:PySem.W.kitOne K (.type "dict") (.type "list") = some false)
   (q_int0:PySem.W.kitOne K (.type "NoneType") (.type "int") = some false)
   (q_int1:PySem.W.kitOne K (.type "bool") (.type "int") = some true)
   (q_int2:PySem.W.kitOne K (.type "int") (.type "int") = some true)
   (q_int3:PySem.W.kitOne K (.type "str") (.type "int") = some false)
   (q_int4:PySem.W.kitOne K (.type "tuple") (.type "int") = some false)
   (q_int5:PySem.W.kitOne K (.type "list") (.type "int") = some false)
   (q_int6:PySem.W.kitOne K (.type "dict") (.type "int") = some false)
   (q_bool0:PySem.W.kitOne K (.type "NoneType") (.type "bool") = some false)
   (q_bool1:PySem.W.kitOne K (.type "bool") (.type "bool") = some true)
   (q_bool2:PySem.W.kitOne K (.type "int") (.type "bool") = some false)
   (q_bool3:PySem.W.kitOne K (.type "str") (.type "bool") = some false)
   (q_bool4:PySem.W.kitOne K (.type "tuple") (.type "bool") = some false)
   (q_bool5:PySem.W.kitOne K (.type "list") (.type "bool") = some false)
   (q_bool6:PySem.W.kitOne K (.type "dict") (.type "bool") = some false)
   (q_str0:PySem.W.kitOne K (.type "NoneType") (.type "str") = some false)
   (q_str1:PySem.W.kitOne K (.type "bool") (.type "str") = some false)
   (q_str2:PySem.W.kitOne K (.type "int") (.type "str") = some false)
   (q_str3:PySem.W.kitOne K (.type "str") (.type "str") = some true)
   (q_str4:PySem.W.kitOne K (.type "tuple") (.type "str") = some false)
   (q_str5:PySem.W.kitOne K (.type "list") (.type "str") = some false)
   (q_str6:PySem.W.kitOne K (.type "dict") (.type "str") = some false)
   (q_tuple0:PySem.W.kitOne K (.type "NoneType") (.type "tuple") = some false)
   (q_tuple1:PySem.W.kitOne K (.type "bool") (.type "tuple") = some false)
   (q_tuple2:PySem.W.kitOne K (.type "int") (.type "tuple") = some false)
   (q_tuple3:PySem.W.kitOne K (.type "str") (.type "tuple") = some false)
   (q_tuple4:PySem.W.kitOne K (.type "tuple") (.type "tuple") = some true)
   (q_tuple5:PySem.W.kitOne K (.type "list") (.type "tuple") = some false)
   (q_tuple6:PySem.W.kitOne K (.type "dict") (.type "tuple") = some false)
   (kt11:PySem.W.kitOne K (.type "bool") (.type "list") = some false) :
   ∃ fd:FuncData,(∀ (s:Shared) (v:Value),BindsTo s fd ⟨[v],[]⟩ [("script",v)]) /\ ∀ base:Heap,K.In base -> base.Ns mainGlobals mg -> FnOk l.prog w K mg base CX0 57 fa fd ["script"] (Wm K) := by
 have e := hfa.symm.trans (PySem.W.mg_of X G a47)
 cases e
 have F0 := zD (st := qM) l0 c0 k0
 have F1 := zD (st := qN) l1 c1 k1
 have F2 := zD (st := sAre) l2 c2 k2
 have F3 := zD (st := xT) l3 c3 k3
 have F4 := zD (st := wz) l4 c4 k4
 have F5 := zD (st := wA) l5 c5 k5
 have F6 := zD (st := qO) l6 c6 k6
 have F7 := zD (st := wB) l7 c7 k7
 have F8 := zD (st := xU) l8 c8 k8
 have F9 := zD (st := wC) l9 c9 k9
 have F10 := zD (st := sHas) l10 c10 k10
 have F11 := zD (st := sBr) l11 c11 k11
 have F12 := zD (st := sNum) l12 c12 k12
 have F13 := zD (st := qP) l13 c13 k13
 have F14 := zD (st := qQ) l14 c14 k14
 have F15 := zD (st := wE) l15 c15 k15
 have F16 := zD (st := qT) l16 c16 k16
 have F17 := zD (st := sRTx) l17 c17 k17
 have F18 := zD (st := sSbs) l18 c18 k18
 have F19 := zD (st := sAll) l19 c19 k19
 have F20 := zD (st := qU) l20 c20 k20
 have F21 := zD (st := sBst) l21 c21 k21
 have F22 := zD (st := sSo) l22 c22 k22
 have F23 := zD (st := sTst) l23 c23 k23
 have F24 := zD (st := sLow) l24 c24 k24
 have F25 := zD (st := qV) l25 c25 k25
 have F26 := zD (st := sLh) l26 c26 k26
 have F27 := zD (st := wF) l27 c27 k27
 have F28 := zD (st := wG) l28 c28 k28
 have F29 := zD (st := sPa) l29 c29 k29
 have F30 := zD (st := sPd) l30 c30 k30
 have F31 := zD (st := sPo) l31 c31 k31
 have F32 := zD (st := xL) l32 c32 k32
 have F33 := zD (st := sHin) l33 c33 k33
 have F34 := zD (st := xC) l34 c34 k34
 have F35 := zD (st := sLov) l35 c35 k35
 have F36 := zD (st := sPrd) l36 c36 k36
 have F37 := zD (st := qR) l37 c37 k37
 have F38 := zD (st := qS) l38 c38 k38
 have F39 := zD (st := jb) l39 c39 k39
 have F40 := zD (st := wL) l40 c40 k40
 have F41 := zD (st := xM) l41 c41 k41
 have F42 := zD (st := xN) l42 c42 k42
 have F43 := zD (st := wD) l43 c43 k43
 have F44 := zD (st := sLw) l44 c44 k44
 have F45 := zD (st := (top 73)) l45 c45 k45
 have F46 := zD (st := (top 74)) l46 c46 k46
 have F47 := zD (st := sLaw) l47 c47 k47
 have Z:Nm K mg := ⟨⟨_,PySem.W.mg_of X G g_LEFT_OUT⟩,⟨_,PySem.W.mg_of X G g_MOST_SIGNS⟩,(PySem.W.mg_none_of X G z_isinstance),(PySem.W.mg_none_of X G z_str),(PySem.W.mg_none_of X G z_list),(PySem.W.mg_none_of X G z_len),(PySem.W.mg_none_of X G z_all),(PySem.W.mg_none_of X G z_any),(PySem.W.mg_none_of X G z_ord),kt0,kt1,kt2,kt3,kt4,kt5,kt6,kt7,kt8,kt9,kt10,kt11⟩
 have Zt:Nt K mg kA := ⟨⟨_,PySem.W.mg_of X G g_KIND⟩,⟨_,PySem.W.mg_of X G g_PARTS⟩,⟨_,PySem.W.mg_of X G g_MOST_BOXES⟩,PySem.W.mg_of X G hKINDS,fun H => .inr ⟨_,_,_,lkK,rfl,rfl,(show 2 <= sizeLine by decide),.cons ⟨_,rfl⟩ (.cons ⟨_,rfl⟩ .nil)⟩,(PySem.W.mg_none_of X G z_isinstance),(PySem.W.mg_none_of X G z_int),(PySem.W.mg_none_of X G z_bool),(PySem.W.mg_none_of X G z_str),(PySem.W.mg_none_of X G z_tuple),(PySem.W.mg_none_of X G z_list),(PySem.W.mg_none_of X G z_len),(PySem.W.mg_none_of X G z_any),(PySem.W.mg_none_of X G z_sorted),(PySem.W.mg_none_of X G z_range),(fun t => by cases t; exact q_int0; exact q_int1; exact q_int2; exact q_int3; exact q_int4; exact q_int5; exact q_int6),(fun t => by cases t; exact q_bool0; exact q_bool1; exact q_bool2; exact q_bool3; exact q_bool4; exact q_bool5; exact q_bool6),(fun t => by cases t; exact q_str0; exact q_str1; exact q_str2; exact q_str3; exact q_str4; exact q_str5; exact q_str6),(fun t => by cases t; exact q_tuple0; exact q_tuple1; exact q_tuple2; exact q_tuple3; exact q_tuple4; exact q_tuple5; exact q_tuple6)⟩
 have Zs:Ns K mg := ⟨⟨_,PySem.W.mg_of X G g_WIDE⟩,⟨_,PySem.W.mg_of X G g_HIGH⟩,⟨_,PySem.W.mg_of X G g_MOST_WORDS⟩,⟨_,PySem.W.mg_of X G g_ACROSS⟩,(PySem.W.mg_none_of X G z_len),(PySem.W.mg_none_of X G z_isinstance),(PySem.W.mg_none_of X G z_list),(PySem.W.mg_none_of X G z_all),(PySem.W.mg_none_of X G z_max),(PySem.W.mg_none_of X G z_reversed),kt6,kt7,kt8,kt9,kt10,kt11⟩
 refine ⟨PySem.W.fnOf "law" "law" (zt sLaw) (zo sLaw) (ze sLaw) .none kV47 dc47 pm47 an47 cd47 ct47,fun s v => .of_eq rfl,fun base B _ => ?_⟩
 have Y0:Callee l.prog w K mg base CX0 1 "is_sign" f0 _ ["sign"] YJ := ⟨zad F0 Z,PySem.W.mg_of X G a0,k0,F0.binds fun _ _ _ _ _ _ us hl => bl1 (p := fun us => bindArgs _ ⟨us,[]⟩ = pure (List.zip _ us)) hl fun _ => rfl⟩
 have Y1:Callee l.prog w K mg base CX0 2 "is_word" f1 _ ["thing"] YK := ⟨zae F1 Z Y0,PySem.W.mg_of X G a1,k1,F1.binds fun _ _ _ _ _ _ us hl => bl1 (p := fun us => bindArgs _ ⟨us,[]⟩ = pure (List.zip _ us)) hl fun _ => rfl⟩
 have Y2:Callee l.prog w K mg base CX0 3 "are_words" f2 _ ["things"] Z4 := ⟨zbe F2 Z Y1,PySem.W.mg_of X G a2,k2,F2.binds fun _ _ _ _ _ _ us hl => bl1 (p := fun us => bindArgs _ ⟨us,[]⟩ = pure (List.zip _ us)) hl fun _ => rfl⟩
 have Y3:Callee l.prog w K mg base (CXE l.prog w) 4 "refuse_no_words" f3 _ ["things"] (wY C2) := ⟨W5 F3 ⟨PySem.W.mg_of X G C2m,ex2⟩ Y2,PySem.W.mg_of X G a3,k3,F3.binds fun _ _ _ _ _ _ us hl => bl1 (p := fun us => bindArgs _ ⟨us,[]⟩ = pure (List.zip _ us)) hl fun _ => rfl⟩
 have Y4:Callee l.prog w K mg base CX0 1 "taken" f4 _ ["words","wide"] qW := ⟨Q5 F4 (PySem.W.mg_none_of X G z_len),PySem.W.mg_of X G a4,k4,F4.binds fun _ _ _ _ _ _ us hl => bl2 (p := fun us => bindArgs _ ⟨us,[]⟩ = pure (List.zip _ us)) hl fun _ _ => rfl⟩
 have Y5:Callee l.prog w K mg base (CXE l.prog w) 5 "lines" f5 _ ["words","wide"] (qX C2) := ⟨Jt F5 Z Y3 Y4,PySem.W.mg_of X G a5,k5,F5.binds fun _ _ _ _ _ _ us hl => bl2 (p := fun us => bindArgs _ ⟨us,[]⟩ = pure (List.zip _ us)) hl fun _ _ => rfl⟩
 have Y6:Callee l.prog w K mg base CX0 1 "with_next_word" f6 _ ["row","behind"] YN := ⟨zaf F6 (PySem.W.mg_none_of X G z_len),PySem.W.mg_of X G a6,k6,F6.binds fun _ _ _ _ _ _ us hl => bl2 (p := fun us => bindArgs _ ⟨us,[]⟩ = pure (List.zip _ us)) hl fun _ _ => rfl⟩
 have Y7:Callee l.prog w K mg base CX0 2 "next_width" f7 _ ["rows"] YO := ⟨zag F7 (PySem.W.mg_none_of X G z_min) (PySem.W.mg_none_of X G z_zip) Y6,PySem.W.mg_of X G a7,k7,F7.binds fun _ _ _ _ _ _ us hl => bl1 (p := fun us => bindArgs _ ⟨us,[]⟩ = pure (List.zip _ us)) hl fun _ => rfl⟩
 have Y8:Callee l.prog w K mg base (CXE l.prog w) 5 "text_stairs" f8 _ ["words"] (jr C2) := ⟨W6 F8 (PySem.W.mg_none_of X G z_len) (PySem.W.mg_none_of X G z_max) Y3 Y4 Y7,PySem.W.mg_of X G a8,k8,F8.binds fun _ _ _ _ _ _ us hl => bl1 (p := fun us => bindArgs _ ⟨us,[]⟩ = pure (List.zip _ us)) hl fun _ => rfl⟩
 have Y9:Callee l.prog w K mg base CX0 1 "is_whole" f9 _ ["thing"] xE := ⟨Q8 F9 Zt,PySem.W.mg_of X G a9,k9,F9.binds fun _ _ _ _ _ _ us hl => bl1 (p := fun us => bindArgs _ ⟨us,[]⟩ = pure (List.zip _ us)) hl fun _ => rfl⟩
 have Y10:Callee l.prog w K mg base CX0 1 "has_kind" f10 _ ["thing"] X7 := ⟨zbi F10 Zt,PySem.W.mg_of X G a10,k10,F10.binds fun _ _ _ _ _ _ us hl => bl1 (p := fun us => bindArgs _ ⟨us,[]⟩ = pure (List.zip _ us)) hl fun _ => rfl⟩
 have Y11:Callee l.prog w K mg base CX0 2 "is_branch" f11 _ ["thing"] spBr := ⟨zb4 F11 Zt Y10,PySem.W.mg_of X G a11,k11,F11.binds fun _ _ _ _ _ _ us hl => bl1 (p := fun us => bindArgs _ ⟨us,[]⟩ = pure (List.zip _ us)) hl fun _ => rfl⟩
 have Y12:Callee l.prog w K mg base CX0 4 "numbers_in" f12 _ ["thing"] Z5 := ⟨zbk F12 Zt Y9 Y11,PySem.W.mg_of X G a12,k12,F12.binds fun _ _ _ _ _ _ us hl => bl1 (p := fun us => bindArgs _ ⟨us,[]⟩ = pure (List.zip _ us)) hl fun _ => rfl⟩
 have Y13:Callee l.prog w K mg base CX0 5 "is_tree" f13 _ ["thing"] YR := ⟨zak F13 Zt Y12,PySem.W.mg_of X G a13,k13,F13.binds fun _ _ _ _ _ _ us hl => bl1 (p := fun us => bindArgs _ ⟨us,[]⟩ = pure (List.zip _ us)) hl fun _ => rfl⟩
 have Y14:Callee l.prog w K mg base (CXE l.prog w) 6 "refuse_no_tree" f14 _ ["thing"] (YS C1) := ⟨zal F14 ⟨PySem.W.mg_of X G C1m,ex1⟩ Y13,PySem.W.mg_of X G a14,k14,F14.binds fun _ _ _ _ _ _ us hl => bl1 (p := fun us => bindArgs _ ⟨us,[]⟩ = pure (List.zip _ us)) hl fun _ => rfl⟩
 have Y15:Callee l.prog w K mg base (CXE l.prog w) 7 "boxes_of" f15 _ ["tree"] (Zg C1) := ⟨Jc F15 (PySem.W.mg_none_of X G z_len) Y14 Y12,PySem.W.mg_of X G a15,k15,F15.binds fun _ _ _ _ _ _ us hl => bl1 (p := fun us => bindArgs _ ⟨us,[]⟩ = pure (List.zip _ us)) hl fun _ => rfl⟩
 have Y16:Callee l.prog w K mg base CX0 4 "is_text" f16 _ ["thing"] YY := ⟨zas F16 Zs Y2,PySem.W.mg_of X G a16,k16,F16.binds fun _ _ _ _ _ _ us hl => bl1 (p := fun us => bindArgs _ ⟨us,[]⟩ = pure (List.zip _ us)) hl fun _ => rfl⟩
 have Y17:Callee l.prog w K mg base (CXE l.prog w) 8 "refuse_no_texts" f17 _ ["tree","texts"] (Z7 C1 C2) := ⟨zbp F17 Zs ⟨PySem.W.mg_of X G C2m,ex2⟩ Y15 Y16,PySem.W.mg_of X G a17,k17,F17.binds fun _ _ _ _ _ _ us hl => bl2 (p := fun us => bindArgs _ ⟨us,[]⟩ = pure (List.zip _ us)) hl fun _ _ => rfl⟩
 have Y18:Callee l.prog w K mg base CX0 1 "side_by_side" f18 _ ["one","other"] X9 := ⟨zbq F18 Zs,PySem.W.mg_of X G a18,k18,F18.binds fun _ _ _ _ _ _ us hl => bl2 (p := fun us => bindArgs _ ⟨us,[]⟩ = pure (List.zip _ us)) hl fun _ _ => rfl⟩
 have Y19:Callee l.prog w K mg base CX0 2 "all_side_by_side" f19 _ ["parts"] Z8 := ⟨zbr F19 Y18,PySem.W.mg_of X G a19,k19,F19.binds fun _ _ _ _ _ _ us hl => bl1 (p := fun us => bindArgs _ ⟨us,[]⟩ = pure (List.zip _ us)) hl fun _ => rfl⟩
 have Y20:Callee l.prog w K mg base CX0 1 "exchanged" f20 _ ["stairs"] jU := ⟨zat F20 Zs,PySem.W.mg_of X G a20,k20,F20.binds fun _ _ _ _ _ _ us hl => bl1 (p := fun us => bindArgs _ ⟨us,[]⟩ = pure (List.zip _ us)) hl fun _ => rfl⟩
 have Y21:Callee l.prog w K mg base CX0 6 "box_stairs" f21 _ ["texts"] Z9 := ⟨zbt F21 Y8,PySem.W.mg_of X G a21,k21,F21.binds fun _ _ _ _ _ _ us hl => bl1 (p := fun us => bindArgs _ ⟨us,[]⟩ = pure (List.zip _ us)) hl fun _ => rfl⟩
 have Y22:Callee l.prog w K mg base CX0 27 "stairs_of" f22 _ ["tree","boxes"] (spSo 24) := ⟨JJ F22 ⟨_,PySem.W.mg_of X G g_KIND⟩ ⟨_,PySem.W.mg_of X G g_PARTS⟩ Zs Y9 Y19 Y20 (PySem.W.mg_of X G a22) k22 (F22.binds fun _ _ _ _ _ _ us hl => bl2 (p := fun us => bindArgs _ ⟨us,[]⟩ = pure (List.zip _ us)) hl fun _ _ => rfl) 24,PySem.W.mg_of X G a22,k22,F22.binds fun _ _ _ _ _ _ us hl => bl2 (p := fun us => bindArgs _ ⟨us,[]⟩ = pure (List.zip _ us)) hl fun _ _ => rfl⟩
 have Y23:Callee l.prog w K mg base (CXE l.prog w) 28 "tree_stairs" f23 _ ["tree","texts"] (Yc C1 C2) := ⟨zbw F23 Y17 Y22 Y21,PySem.W.mg_of X G a23,k23,F23.binds fun _ _ _ _ _ _ us hl => bl2 (p := fun us => bindArgs _ ⟨us,[]⟩ = pure (List.zip _ us)) hl fun _ _ => rfl⟩
 have Y24:Callee l.prog w K mg base CX0 1 "lowest" f24 _ ["stairs","wide"] Ye := ⟨zby F24 ⟨_,PySem.W.mg_of X G g_WIDE⟩ ⟨_,PySem.W.mg_of X G g_HIGH⟩ (PySem.W.mg_none_of X G z_min),PySem.W.mg_of X G a24,k24,F24.binds fun _ _ _ _ _ _ us hl => bl2 (p := fun us => bindArgs _ ⟨us,[]⟩ = pure (List.zip _ us)) hl fun _ _ => rfl⟩
 have Y25:Callee l.prog w K mg base CX0 1 "narrowest" f25 _ ["stairs","high"] jV := ⟨zaw F25 ⟨_,PySem.W.mg_of X G g_WIDE⟩ ⟨_,PySem.W.mg_of X G g_HIGH⟩ (PySem.W.mg_none_of X G z_min),PySem.W.mg_of X G a25,k25,F25.binds fun _ _ _ _ _ _ us hl => bl2 (p := fun us => bindArgs _ ⟨us,[]⟩ = pure (List.zip _ us)) hl fun _ _ => rfl⟩
 have Y26:Callee l.prog w K mg base (CXE l.prog w) 29 "least_high" f26 _ ["tree","texts","wide"] (spLh C1 C2) := ⟨zca F26 Y23 Y24,PySem.W.mg_of X G a26,k26,F26.binds fun _ _ _ _ _ _ us hl => bl3 (p := fun us => bindArgs _ ⟨us,[]⟩ = pure (List.zip _ us)) hl fun _ _ _ => rfl⟩
 have Y27:Callee l.prog w K mg base (CXE l.prog w) 29 "least_wide" f27 _ ["tree","texts","high"] (Zj C1 C2) := ⟨Jj F27 Y23 Y25,PySem.W.mg_of X G a27,k27,F27.binds fun _ _ _ _ _ _ us hl => bl3 (p := fun us => bindArgs _ ⟨us,[]⟩ = pure (List.zip _ us)) hl fun _ _ _ => rfl⟩
 have Y28:Callee l.prog w K mg base CX0 1 "edges" f28 _ ["first","last","lengths"] q9 := ⟨Jh F28,PySem.W.mg_of X G a28,k28,F28.binds fun _ _ _ _ _ _ us hl => bl3 (p := fun us => bindArgs _ ⟨us,[]⟩ = pure (List.zip _ us)) hl fun _ _ _ => rfl⟩
 have Y29:Callee l.prog w K mg base CX0 28 "pieces_across" f29 _ ["parts","stairs","piece"] spPa := ⟨zcc F29 ⟨_,PySem.W.mg_of X G g_LEFT⟩ ⟨_,PySem.W.mg_of X G g_TOP⟩ ⟨_,PySem.W.mg_of X G g_RIGHT⟩ ⟨_,PySem.W.mg_of X G g_BELOW⟩ (PySem.W.mg_none_of X G z_zip) Y25 Y22 Y28,PySem.W.mg_of X G a29,k29,F29.binds fun _ _ _ _ _ _ us hl => bl3 (p := fun us => bindArgs _ ⟨us,[]⟩ = pure (List.zip _ us)) hl fun _ _ _ => rfl⟩
 have Y30:Callee l.prog w K mg base CX0 28 "pieces_down" f30 _ ["parts","stairs","piece"] spPd := ⟨zcd F30 ⟨_,PySem.W.mg_of X G g_LEFT⟩ ⟨_,PySem.W.mg_of X G g_TOP⟩ ⟨_,PySem.W.mg_of X G g_RIGHT⟩ ⟨_,PySem.W.mg_of X G g_BELOW⟩ (PySem.W.mg_none_of X G z_zip) Y24 Y22 Y28,PySem.W.mg_of X G a30,k30,F30.binds fun _ _ _ _ _ _ us hl => bl3 (p := fun us => bindArgs _ ⟨us,[]⟩ = pure (List.zip _ us)) hl fun _ _ _ => rfl⟩
 have Y31:Callee l.prog w K mg base CX0 29 "pieces_of" f31 _ ["tree","stairs","piece"] spPo := ⟨zce F31 ⟨_,PySem.W.mg_of X G g_KIND⟩ ⟨_,PySem.W.mg_of X G g_PARTS⟩ Zs Y29 Y30,PySem.W.mg_of X G a31,k31,F31.binds fun _ _ _ _ _ _ us hl => bl3 (p := fun us => bindArgs _ ⟨us,[]⟩ = pure (List.zip _ us)) hl fun _ _ _ => rfl⟩
 have Y32:Callee l.prog w K mg base CX0 54 "set_in" f32 _ ["tree","stairs","piece"] (ja 24) := ⟨Qn F32 ⟨_,PySem.W.mg_of X G g_PARTS⟩ (PySem.W.mg_none_of X G z_zip) Y9 Y31 (PySem.W.mg_of X G a32) k32 (F32.binds fun _ _ _ _ _ _ us hl => bl3 (p := fun us => bindArgs _ ⟨us,[]⟩ = pure (List.zip _ us)) hl fun _ _ _ => rfl) 24,PySem.W.mg_of X G a32,k32,F32.binds fun _ _ _ _ _ _ us hl => bl3 (p := fun us => bindArgs _ ⟨us,[]⟩ = pure (List.zip _ us)) hl fun _ _ _ => rfl⟩
 have Y33:Callee l.prog w K mg base (CXE l.prog w) 30 "height_in" f33 _ ["tree","texts","wide"] (Yf C1 C2 C3) := ⟨zbA F33 ⟨PySem.W.mg_of X G C3m,ex3⟩ Y26,PySem.W.mg_of X G a33,k33,F33.binds fun _ _ _ _ _ _ us hl => bl3 (p := fun us => bindArgs _ ⟨us,[]⟩ = pure (List.zip _ us)) hl fun _ _ _ => rfl⟩
 have Y34:Callee l.prog w K mg base (CXE l.prog w) 55 "setting" f34 _ ["tree","texts","wide","high"] (jY C1 C2 C3) := ⟨zaA F34 ⟨PySem.W.mg_of X G C3m,ex3⟩ (PySem.W.mg_none_of X G z_sorted) Y33 Y32 Y21,PySem.W.mg_of X G a34,k34,F34.binds fun _ _ _ _ _ _ us hl => bl4 (p := fun us => bindArgs _ ⟨us,[]⟩ = pure (List.zip _ us)) hl fun _ _ _ _ => rfl⟩
 have Y35:Callee l.prog w K mg base CX0 1 "laid_over" f35 _ ["row","line","left"] Wk := ⟨zbJ F35 (PySem.W.mg_none_of X G z_len),PySem.W.mg_of X G a35,k35,F35.binds fun _ _ _ _ _ _ us hl => bl3 (p := fun us => bindArgs _ ⟨us,[]⟩ = pure (List.zip _ us)) hl fun _ _ _ => rfl⟩
 have Y36:Callee l.prog w K mg base (CXE l.prog w) 56 "printed" f36 _ ["tree","texts","wide"] (Wl C1 C2 C3) := ⟨zbK F36 ⟨PySem.W.mg_of X G C3m,ex3⟩ ⟨_,PySem.W.mg_of X G g_MOST_WIDE⟩ ⟨_,PySem.W.mg_of X G g_LEFT⟩ ⟨_,PySem.W.mg_of X G g_TOP⟩ ⟨_,PySem.W.mg_of X G g_RIGHT⟩ (PySem.W.mg_none_of X G z_zip) (PySem.W.mg_none_of X G z_enumerate) Y17 Y33 Y34 Y5 Y35,PySem.W.mg_of X G a36,k36,F36.binds fun _ _ _ _ _ _ us hl => bl3 (p := fun us => bindArgs _ ⟨us,[]⟩ = pure (List.zip _ us)) hl fun _ _ _ => rfl⟩
 have Y37:Callee l.prog w K mg base CX0 1 "_law_stir" f37 _ ["cell","k"] jZ := ⟨zaI F37,PySem.W.mg_of X G a37,k37,F37.binds fun _ _ _ _ _ _ us hl => bl2 (p := fun us => bindArgs _ ⟨us,[]⟩ = pure (List.zip _ us)) hl fun _ _ => rfl⟩
 have Y38:Callee l.prog w K mg base CX0 2 "_law_cell" f38 _ ["script","k"] (qH K) := ⟨zaJ F38 (PySem.W.mg_none_of X G z_len) Y37,PySem.W.mg_of X G a38,k38,F38.binds fun _ _ _ _ _ _ us hl => bl2 (p := fun us => bindArgs _ ⟨us,[]⟩ = pure (List.zip _ us)) hl fun _ _ => rfl⟩
 have Y39:Callee l.prog w K mg base CX0 1 "_law_lack" f39 _ ["pile"] Xi := ⟨zaE F39 (PySem.W.mg_none_of X G z_len) (PySem.W.mg_none_of X G z_max),PySem.W.mg_of X G a39,k39,F39.binds fun _ _ _ _ _ _ us hl => bl1 (p := fun us => bindArgs _ ⟨us,[]⟩ = pure (List.zip _ us)) hl fun _ => rfl⟩
 have Y40:Callee l.prog w K mg base CX0 2 "_law_shape" f40 _ ["cells","kind","most"] Zn := ⟨Jl F40 (PySem.W.mg_none_of X G z_len) (PySem.W.mg_none_of X G z_int) (PySem.W.mg_none_of X G z_tuple) Y39,PySem.W.mg_of X G a40,k40,F40.binds fun _ _ _ _ _ _ us hl => bl3 (p := fun us => bindArgs _ ⟨us,[]⟩ = pure (List.zip _ us)) hl fun _ _ _ => rfl⟩
 have Y41:Callee l.prog w K mg base CX0 25 "_law_count" f41 _ ["shape"] (xH 24) := ⟨Xk F41 Zt (PySem.W.mg_none_of X G z_sum) (PySem.W.mg_of X G a41) k41 (F41.binds fun _ _ _ _ _ _ us hl => bl1 (p := fun us => bindArgs _ ⟨us,[]⟩ = pure (List.zip _ us)) hl fun _ => rfl) 24,PySem.W.mg_of X G a41,k41,F41.binds fun _ _ _ _ _ _ us hl => bl1 (p := fun us => bindArgs _ ⟨us,[]⟩ = pure (List.zip _ us)) hl fun _ => rfl⟩
 have Y42:Callee l.prog w K mg base CX0 25 "_law_numbered" f42 _ ["shape","left"] (jd 24) := ⟨Qr F42 (PySem.W.mg_none_of X G z_tuple) (PySem.W.mg_of X G a42) k42 (F42.binds fun _ _ _ _ _ _ us hl => bl2 (p := fun us => bindArgs _ ⟨us,[]⟩ = pure (List.zip _ us)) hl fun _ _ => rfl) 24,PySem.W.mg_of X G a42,k42,F42.binds fun _ _ _ _ _ _ us hl => bl2 (p := fun us => bindArgs _ ⟨us,[]⟩ = pure (List.zip _ us)) hl fun _ _ => rfl⟩
 have Y43:Callee l.prog w K mg base CX0 26 "_law_tree" f43 _ ["script","first","most"] (Wd K) := ⟨zbF F43 (PySem.W.mg_none_of X G z_len) (PySem.W.mg_none_of X G z_range) (PySem.W.mg_none_of X G z_list) Y40 Y38 Y41 Y42,PySem.W.mg_of X G a43,k43,F43.binds fun _ _ _ _ _ _ us hl => bl3 (p := fun us => bindArgs _ ⟨us,[]⟩ = pure (List.zip _ us)) hl fun _ _ _ => rfl⟩
 have Y44:Callee l.prog w K mg base CX0 1 "_law_word" f44 _ ["cell"] Xn := ⟨zaK F44 (PySem.W.mg_none_of X G z_range),PySem.W.mg_of X G a44,k44,F44.binds fun _ _ _ _ _ _ us hl => bl1 (p := fun us => bindArgs _ ⟨us,[]⟩ = pure (List.zip _ us)) hl fun _ => rfl⟩
 have Y45:Callee l.prog w K mg base CX0 3 "_law_texts" f45 _ ["script","many"] (Xo K) := ⟨zaL F45 (PySem.W.mg_none_of X G z_range) (PySem.W.mg_none_of X G z_int) Y38 Y37 Y44,PySem.W.mg_of X G a45,k45,F45.binds fun _ _ _ _ _ _ us hl => bl2 (p := fun us => bindArgs _ ⟨us,[]⟩ = pure (List.zip _ us)) hl fun _ _ => rfl⟩
 have Y46:Callee l.prog w K mg base CX0 6 "_law_due" f46 _ ["boxes","texts","wide","high"] Zp := ⟨Jw F46 (PySem.W.mg_none_of X G z_range) (PySem.W.mg_none_of X G z_len) (PySem.W.mg_none_of X G z_list) Y5,PySem.W.mg_of X G a46,k46,F46.binds fun _ _ _ _ _ _ us hl => bl4 (p := fun us => bindArgs _ ⟨us,[]⟩ = pure (List.zip _ us)) hl fun _ _ _ _ => rfl⟩
 exact zbN F47 Zt (PySem.W.mg_none_of X G z_min) Y43 Y45 Y41 Y38 Y27 Y26 Y46 Y34 Y36
end JI
theorem PySem.W.Fast.te11998250817851498223:True := True.intro
theorem PySem.W.Fast.tw2962132889657495943:True := True.intro
theorem PySem.W.Fast.tw3737639115637623402:True := True.intro
theorem PySem.W.Fast.tw3082248024455328787:True := True.intro
theorem PySem.W.Fast.tw8302715404731643188:True := True.intro
theorem PySem.W.Fast.tw9782968482413360482:True := True.intro
theorem PySem.W.Fast.tw16864239698617869946:True := True.intro
theorem PySem.W.Fast.tw17442608144840055013:True := True.intro
theorem PySem.W.Fast.tw16087041537048873896:True := True.intro
theorem PySem.W.Fast.tw8022334285826181059:True := True.intro
theorem PySem.W.Fast.tw17191397996680914593:True := True.intro
theorem PySem.W.Fast.tw13470608853969691316:True := True.intro
theorem PySem.W.Fast.tw8998372740741824690:True := True.intro
theorem PySem.W.Fast.tw3487573575204761684:True := True.intro
theorem PySem.W.Fast.tw2152538097615695836:True := True.intro
theorem PySem.W.Fast.tw5532191023938439668:True := True.intro
theorem PySem.W.Fast.tw15753696245558003341:True := True.intro
theorem PySem.W.Fast.tw917778930037006489:True := True.intro
theorem PySem.W.Fast.tw901708914338707106:True := True.intro
theorem PySem.W.Fast.tw18022120940386039110:True := True.intro
theorem PySem.W.Fast.tw16284640141211497842:True := True.intro
theorem PySem.W.Fast.tw12148107620564541390:True := True.intro
theorem PySem.W.Fast.tw15122913715161672643:True := True.intro
theorem PySem.W.Fast.tw13712819672536642100:True := True.intro
theorem PySem.W.Fast.tw13140073923460970875:True := True.intro
theorem PySem.W.Fast.tw18033968984386248488:True := True.intro
theorem PySem.W.Fast.tw6559197726555770323:True := True.intro
theorem PySem.W.Fast.tw1771805545754294945:True := True.intro
theorem PySem.W.Fast.tw10500390663285461949:True := True.intro
theorem PySem.W.Fast.tw6154112830551711551:True := True.intro
theorem PySem.W.Fast.tw3341490059720002855:True := True.intro
theorem PySem.W.Fast.tw10999486044476020456:True := True.intro
theorem PySem.W.Fast.tw2641589801359911689:True := True.intro
theorem PySem.W.Fast.tw16090584780543740825:True := True.intro
theorem PySem.W.Fast.tw10522518548841492317:True := True.intro
theorem PySem.W.Fast.tw11882629559988454955:True := True.intro
theorem PySem.W.Fast.tw8682021784665244531:True := True.intro
theorem PySem.W.Fast.tw11153434301121276767:True := True.intro
theorem PySem.W.Fast.tw17435150530831476095:True := True.intro
theorem PySem.W.Fast.tw11411315959161350053:True := True.intro
theorem PySem.W.Fast.tw15162764604391398418:True := True.intro
theorem PySem.W.Fast.tw1027225479941781621:True := True.intro
theorem PySem.W.Fast.tw3056705720244196087:True := True.intro
theorem PySem.W.Fast.tw10655529214022904596:True := True.intro
theorem PySem.W.Fast.tw405814326892617150:True := True.intro
theorem PySem.W.Fast.tw15779034985972230704:True := True.intro
theorem PySem.W.Fast.tw9437151907415207281:True := True.intro
theorem PySem.W.Fast.tw15742766550860282754:True := True.intro
theorem PySem.W.Fast.tw5712829503333368953:True := True.intro
theorem PySem.W.Fast.tw8829680005371096193:True := True.intro
theorem PySem.W.Fast.tw7488895622280981835:True := True.intro
theorem PySem.W.Fast.tw11909568541171354700:True := True.intro
theorem PySem.W.Fast.tw16922861862034382071:True := True.intro
theorem PySem.W.Fast.tw2087770878758438230:True := True.intro
theorem PySem.W.Fast.tw11835313559199961000:True := True.intro
theorem PySem.W.Fast.tw1127996011988255531:True := True.intro
theorem PySem.W.Fast.tw11437982318549971468:True := True.intro
theorem PySem.W.Fast.tw16783867855261485911:True := True.intro
theorem PySem.W.Fast.tw11835509667380087968:True := True.intro
theorem PySem.W.Fast.tw12428645717738614375:True := True.intro
theorem PySem.W.Fast.tw5481744531082313869:True := True.intro
theorem PySem.W.Fast.tw2598500205009044277:True := True.intro
theorem PySem.W.Fast.tw5081037202113401357:True := True.intro
theorem PySem.W.Fast.tw2634335149138195566:True := True.intro
theorem PySem.W.Fast.tw6223571527270987849:True := True.intro
theorem PySem.W.Fast.tw2725575413711976026:True := True.intro
theorem PySem.W.Fast.tw16208195965905844167:True := True.intro
theorem PySem.W.Fast.tw6677806130272753947:True := True.intro
theorem PySem.W.Fast.tw17530857280080880060:True := True.intro
theorem PySem.W.Fast.tw6960272746385847953:True := True.intro
theorem PySem.W.Fast.tw8285728356994974364:True := True.intro
theorem PySem.W.Fast.tw6453271410217217550:True := True.intro
theorem PySem.W.Fast.tw16888985269726769936:True := True.intro
theorem PySem.W.Fast.tw8436398965294498009:True := True.intro
theorem PySem.W.Fast.tw341485307338783562:True := True.intro
theorem PySem.W.Fast.tw249048484749268263:True := True.intro
theorem PySem.W.Fast.tw3275001870949461522:True := True.intro
theorem PySem.W.Fast.tw15253433025103285236:True := True.intro
theorem PySem.W.Fast.tw5247479931827322099:True := True.intro
theorem PySem.W.Fast.tw4495225392617544488:True := True.intro
theorem PySem.W.Fast.tw8442536511705471396:True := True.intro
theorem PySem.W.Fast.tw10282640772751799251:True := True.intro
theorem PySem.W.Fast.tw5190690855163849246:True := True.intro
theorem PySem.W.Fast.tw9400919615191591872:True := True.intro
theorem PySem.W.Fast.tw18016912181700004730:True := True.intro
theorem PySem.W.Fast.tw6850901475950864244:True := True.intro
theorem PySem.W.Fast.tw4654164977571502353:True := True.intro
theorem PySem.W.Fast.tw8824513685716997411:True := True.intro
theorem PySem.W.Fast.tw8041093214807072115:True := True.intro
theorem PySem.W.Fast.tw6593732489587215162:True := True.intro
theorem PySem.W.Fast.tw2086921412932154972:True := True.intro
theorem PySem.W.Fast.tw14243547433301446722:True := True.intro
theorem PySem.W.Fast.tw4547307627894959823:True := True.intro
theorem PySem.W.Fast.tw5913273913476093798:True := True.intro
theorem PySem.W.Fast.tw7159141816122839726:True := True.intro
theorem PySem.W.Fast.tw13986808671385982288:True := True.intro
theorem PySem.W.Fast.tw2144232189066868424:True := True.intro
theorem PySem.W.Fast.tw13826452657514269300:True := True.intro
theorem PySem.W.Fast.tw6122294672831759617:True := True.intro
theorem PySem.W.Fast.tw5438018033729201530:True := True.intro
theorem PySem.W.Fast.tw17506873715592774303:True := True.intro
theorem PySem.W.Fast.tw15490514399078836607:True := True.intro
theorem PySem.W.Fast.tw14054633758518768917:True := True.intro
theorem PySem.W.Fast.tw5090464310637053768:True := True.intro
theorem PySem.W.Fast.tw16295704887419198077:True := True.intro
theorem PySem.W.Fast.tw17545893083795107434:True := True.intro
theorem PySem.W.Fast.tw16175390925419537720:True := True.intro
theorem PySem.W.Fast.tw16739484795050969307:True := True.intro
theorem PySem.W.Fast.tw4025522452997460308:True := True.intro
theorem PySem.W.Fast.tw12318964421902298616:True := True.intro
theorem PySem.W.Fast.tw9500278338428532440:True := True.intro
theorem PySem.W.Fast.tw9859892625276555630:True := True.intro
theorem PySem.W.Fast.tw3512814744963074142:True := True.intro
theorem PySem.W.Fast.tw6923695320235281402:True := True.intro
theorem PySem.W.Fast.tw2907446213592340925:True := True.intro
theorem PySem.W.Fast.tw3615083240388096835:True := True.intro
theorem PySem.W.Fast.tw6353359235092617523:True := True.intro
theorem PySem.W.Fast.tw15338674995024693104:True := True.intro
theorem PySem.W.Fast.tw7529544789947510186:True := True.intro
theorem PySem.W.Fast.tw12265560271815508742:True := True.intro
theorem PySem.W.Fast.tw10140292057786493007:True := True.intro
theorem PySem.W.Fast.tw14259385894016183562:True := True.intro
theorem PySem.W.Fast.tw2954252612467613762:True := True.intro
theorem PySem.W.Fast.tw439198417028290755:True := True.intro
theorem PySem.W.Fast.tw5445861195691373527:True := True.intro
theorem PySem.W.Fast.tw6359823865060315327:True := True.intro
theorem PySem.W.Fast.tw10375686121238759217:True := True.intro
theorem PySem.W.Fast.tw16681496965823561660:True := True.intro
theorem PySem.W.Fast.tw69946863612752116:True := True.intro
theorem PySem.W.Fast.tw12183072114818671284:True := True.intro
theorem PySem.W.Fast.tw3336903530867266155:True := True.intro
theorem PySem.W.Fast.tw12970137847709333320:True := True.intro
theorem PySem.W.Fast.tw16550739256402832358:True := True.intro
theorem PySem.W.Fast.tw2640899503193429718:True := True.intro
theorem PySem.W.Fast.tw17812758127514975942:True := True.intro
theorem PySem.W.Fast.tw1290728766769297707:True := True.intro
theorem PySem.W.Fast.tw10828267814724201482:True := True.intro
theorem PySem.W.Fast.tw15166192362458887006:True := True.intro
theorem PySem.W.Fast.tw659343688892441668:True := True.intro
theorem PySem.W.Fast.tw13325518779630438175:True := True.intro
theorem PySem.W.Fast.tw12682107021276356474:True := True.intro
theorem PySem.W.Fast.tw16677943478418442926:True := True.intro
theorem PySem.W.Fast.tw2962162231382059433:True := True.intro
theorem PySem.W.Fast.tw15649243567493756899:True := True.intro
theorem PySem.W.Fast.tw8612180104398418936:True := True.intro
theorem PySem.W.Fast.tw6306119069666490503:True := True.intro
theorem PySem.W.Fast.tw858135456119114553:True := True.intro
theorem PySem.W.Fast.tw8014145739758154714:True := True.intro
theorem PySem.W.Fast.tw2496730583698180579:True := True.intro
open PySem PySem.W PyProof.Rows
set_option maxRecDepth 100000 in
set_option maxHeartbeats 0 in
theorem PySem.Challenge.cw_pagepart_k66_printed_holds : PySem.Challenge.rw_pagepart_k66_printed.Holds := by
 w_on; o_law; k_head; (case hw => w_witness2)
 k_fill
 refine L2.QR (l := PySem.Challenge.rw_pagepart_k66_printed) (n := 63) (k := 57) (x := "script") (CX := L2.CX0) (sp := fun K => JI.Wm K) rfl (by decide) rfl ⟨rfl,by decide,by decide⟩ (fun w h Y => PySem.W.kIn_of Y) ?F (fun K H a ns hl hO hS => ⟨a,ns,rfl,hS,hl,fun _ => rfl⟩) fun _ _ _ _ z => z
 case F =>
   intro w mg fa h KX G hmg
   refine' _root_.JI.all_mk KX G hmg  ?a0 ?l0 ?c0 ?k0 ?a1 ?l1 ?c1 ?k1 ?a2 ?l2 ?c2 ?k2 ?a3 ?l3 ?c3 ?k3 ?a4 ?l4 ?c4 ?k4 ?a5 ?l5 ?c5 ?k5 ?a6 ?l6 ?c6 ?k6 ?a7 ?l7 ?c7 ?k7 ?a8 ?l8 ?c8 ?k8 ?a9 ?l9 ?c9 ?k9 ?a10 ?l10 ?c10 ?k10 ?a11 ?l11 ?c11 ?k11 ?a12 ?l12 ?c12 ?k12 ?a13 ?l13 ?c13 ?k13 ?a14 ?l14 ?c14 ?k14 ?a15 ?l15 ?c15 ?k15 ?a16 ?l16 ?c16 ?k16 ?a17 ?l17 ?c17 ?k17 ?a18 ?l18 ?c18 ?k18 ?a19 ?l19 ?c19 ?k19 ?a20 ?l20 ?c20 ?k20 ?a21 ?l21 ?c21 ?k21 ?a22 ?l22 ?c22 ?k22 ?a23 ?l23 ?c23 ?k23 ?a24 ?l24 ?c24 ?k24 ?a25 ?l25 ?c25 ?k25 ?a26 ?l26 ?c26 ?k26 ?a27 ?l27 ?c27 ?k27 ?a28 ?l28 ?c28 ?k28 ?a29 ?l29 ?c29 ?k29 ?a30 ?l30 ?c30 ?k30 ?a31 ?l31 ?c31 ?k31 ?a32 ?l32 ?c32 ?k32 ?a33 ?l33 ?c33 ?k33 ?a34 ?l34 ?c34 ?k34 ?a35 ?l35 ?c35 ?k35 ?a36 ?l36 ?c36 ?k36 ?a37 ?l37 ?c37 ?k37 ?a38 ?l38 ?c38 ?k38 ?a39 ?l39 ?c39 ?k39 ?a40 ?l40 ?c40 ?k40 ?a41 ?l41 ?c41 ?k41 ?a42 ?l42 ?c42 ?k42 ?a43 ?l43 ?c43 ?k43 ?a44 ?l44 ?c44 ?k44 ?a45 ?l45 ?c45 ?k45 ?a46 ?l46 ?c46 ?k46 ?a47 ?l47 ?c47 ?k47 ?C0m ?C1m ?C2m ?C3m ?z_len ?z_range ?z_min ?z_max ?z_sum ?z_zip ?z_isinstance ?z_int ?z_bool ?z_str ?z_tuple ?z_list ?z_all ?z_any ?z_ord ?z_sorted ?z_reversed ?z_enumerate ?g_LEFT_OUT ?g_MOST_SIGNS ?g_KIND ?g_PARTS ?g_MOST_BOXES ?g_WIDE ?g_HIGH ?g_MOST_WORDS ?g_LEFT ?g_TOP ?g_RIGHT ?g_BELOW ?g_MOST_WIDE ?g_ACROSS ?ex1 ?ex2 ?ex3 ?hKINDS ?lkK ?kt0 ?kt1 ?kt2 ?kt3 ?kt4 ?kt5 ?kt6 ?kt7 ?kt8 ?kt9 ?kt10 ?q_int0 ?q_int1 ?q_int2 ?q_int3 ?q_int4 ?q_int5 ?q_int6 ?q_bool0 ?q_bool1 ?q_bool2 ?q_bool3 ?q_bool4 ?q_bool5 ?q_bool6 ?q_str0 ?q_str1 ?q_str2 ?q_str3 ?q_str4 ?q_str5 ?q_str6 ?q_tuple0 ?q_tuple1 ?q_tuple2 ?q_tuple3 ?q_tuple4 ?q_tuple5 ?q_tuple6 ?kt11
   (case a0 => k_is)
   (case l0 => k_is)
   (case c0 => k_is)
   (case k0 => k_is)
   (case a1 => k_is)
   (case l1 => k_is)
   (case c1 => k_is)
   (case k1 => k_is)
   (case a2 => k_is)
   (case l2 => k_is)
   (case c2 => k_is)
   (case k2 => k_is)
   (case a3 => k_is)
   (case l3 => k_is)
   (case c3 => k_is)
   (case k3 => k_is)
   (case a4 => k_is)
   (case l4 => k_is)
   (case c4 => k_is)
   (case k4 => k_is)
   (case a5 => k_is)
   (case l5 => k_is)
   (case c5 => k_is)
   (case k5 => k_is)
   (case a6 => k_is)
   (case l6 => k_is)
   (case c6 => k_is)
   (case k6 => k_is)
   (case a7 => k_is)
   (case l7 => k_is)
   (case c7 => k_is)
   (case k7 => k_is)
   (case a8 => k_is)
   (case l8 => k_is)
   (case c8 => k_is)
   (case k8 => k_is)
   (case a9 => k_is)
   (case l9 => k_is)
   (case c9 => k_is)
   (case k9 => k_is)
   (case a10 => k_is)
   (case l10 => k_is)
   (case c10 => k_is)
   (case k10 => k_is)
   (case a11 => k_is)
   (case l11 => k_is)
   (case c11 => k_is)
   (case k11 => k_is)
   (case a12 => k_is)
   (case l12 => k_is)
   (case c12 => k_is)
   (case k12 => k_is)
   (case a13 => k_is)
   (case l13 => k_is)
   (case c13 => k_is)
   (case k13 => k_is)
   (case a14 => k_is)
   (case l14 => k_is)
   (case c14 => k_is)
   (case k14 => k_is)
   (case a15 => k_is)
   (case l15 => k_is)
   (case c15 => k_is)
   (case k15 => k_is)
   (case a16 => k_is)
   (case l16 => k_is)
   (case c16 => k_is)
   (case k16 => k_is)
   (case a17 => k_is)
   (case l17 => k_is)
   (case c17 => k_is)
   (case k17 => k_is)
   (case a18 => k_is)
   (case l18 => k_is)
   (case c18 => k_is)
   (case k18 => k_is)
   (case a19 => k_is)
   (case l19 => k_is)
   (case c19 => k_is)
   (case k19 => k_is)
   (case a20 => k_is)
   (case l20 => k_is)
   (case c20 => k_is)
   (case k20 => k_is)
   (case a21 => k_is)
   (case l21 => k_is)
   (case c21 => k_is)
   (case k21 => k_is)
   (case a22 => k_is)
   (case l22 => k_is)
   (case c22 => k_is)
   (case k22 => k_is)
   (case a23 => k_is)
   (case l23 => k_is)
   (case c23 => k_is)
   (case k23 => k_is)
   (case a24 => k_is)
   (case l24 => k_is)
   (case c24 => k_is)
   (case k24 => k_is)
   (case a25 => k_is)
   (case l25 => k_is)
   (case c25 => k_is)
   (case k25 => k_is)
   (case a26 => k_is)
   (case l26 => k_is)
   (case c26 => k_is)
   (case k26 => k_is)
   (case a27 => k_is)
   (case l27 => k_is)
   (case c27 => k_is)
   (case k27 => k_is)
   (case a28 => k_is)
   (case l28 => k_is)
   (case c28 => k_is)
   (case k28 => k_is)
   (case a29 => k_is)
   (case l29 => k_is)
   (case c29 => k_is)
   (case k29 => k_is)
   (case a30 => k_is)
   (case l30 => k_is)
   (case c30 => k_is)
   (case k30 => k_is)
   (case a31 => k_is)
   (case l31 => k_is)
   (case c31 => k_is)
   (case k31 => k_is)
   (case a32 => k_is)
   (case l32 => k_is)
   (case c32 => k_is)
   (case k32 => k_is)
   (case a33 => k_is)
   (case l33 => k_is)
   (case c33 => k_is)
   (case k33 => k_is)
   (case a34 => k_is)
   (case l34 => k_is)
   (case c34 => k_is)
   (case k34 => k_is)
   (case a35 => k_is)
   (case l35 => k_is)
   (case c35 => k_is)
   (case k35 => k_is)
   (case a36 => k_is)
   (case l36 => k_is)
   (case c36 => k_is)
   (case k36 => k_is)
   (case a37 => k_is)
   (case l37 => k_is)
   (case c37 => k_is)
   (case k37 => k_is)
   (case a38 => k_is)
   (case l38 => k_is)
   (case c38 => k_is)
   (case k38 => k_is)
   (case a39 => k_is)
   (case l39 => k_is)
   (case c39 => k_is)
   (case k39 => k_is)
   (case a40 => k_is)
   (case l40 => k_is)
   (case c40 => k_is)
   (case k40 => k_is)
   (case a41 => k_is)
   (case l41 => k_is)
   (case c41 => k_is)
   (case k41 => k_is)
   (case a42 => k_is)
   (case l42 => k_is)
   (case c42 => k_is)
   (case k42 => k_is)
   (case a43 => k_is)
   (case l43 => k_is)
   (case c43 => k_is)
   (case k43 => k_is)
   (case a44 => k_is)
   (case l44 => k_is)
   (case c44 => k_is)
   (case k44 => k_is)
   (case a45 => k_is)
   (case l45 => k_is)
   (case c45 => k_is)
   (case k45 => k_is)
   (case a46 => k_is)
   (case l46 => k_is)
   (case c46 => k_is)
   (case k46 => k_is)
   (case a47 => k_is)
   (case l47 => k_is)
   (case c47 => k_is)
   (case k47 => k_is)
   (case C0m => k_is)
   (case C1m => k_is)
   (case C2m => k_is)
   (case C3m => k_is)
   (case z_len => k_is)
   (case z_range => k_is)
   (case z_min => k_is)
   (case z_max => k_is)
   (case z_sum => k_is)
   (case z_zip => k_is)
   (case z_isinstance => k_is)
   (case z_int => k_is)
   (case z_bool => k_is)
   (case z_str => k_is)
   (case z_tuple => k_is)
   (case z_list => k_is)
   (case z_all => k_is)
   (case z_any => k_is)
   (case z_ord => k_is)
   (case z_sorted => k_is)
   (case z_reversed => k_is)
   (case z_enumerate => k_is)
   (case g_LEFT_OUT => k_is)
   (case g_MOST_SIGNS => k_is)
   (case g_KIND => k_is)
   (case g_PARTS => k_is)
   (case g_MOST_BOXES => k_is)
   (case g_WIDE => k_is)
   (case g_HIGH => k_is)
   (case g_MOST_WORDS => k_is)
   (case g_LEFT => k_is)
   (case g_TOP => k_is)
   (case g_RIGHT => k_is)
   (case g_BELOW => k_is)
   (case g_MOST_WIDE => k_is)
   (case g_ACROSS => k_is)
   (case ex1 => kernel_rfl)
   (case ex2 => kernel_rfl)
   (case ex3 => kernel_rfl)
   (case hKINDS => k_is)
   (case lkK => k_is)
   (case kt0 => kernel_rfl)
   (case kt1 => kernel_rfl)
   (case kt2 => kernel_rfl)
   (case kt3 => kernel_rfl)
   (case kt4 => kernel_rfl)
   (case kt5 => kernel_rfl)
   (case kt6 => kernel_rfl)
   (case kt7 => kernel_rfl)
   (case kt8 => kernel_rfl)
   (case kt9 => kernel_rfl)
   (case kt10 => kernel_rfl)
   (case q_int0 => kernel_rfl)
   (case q_int1 => kernel_rfl)
   (case q_int2 => kernel_rfl)
   (case q_int3 => kernel_rfl)
   (case q_int4 => kernel_rfl)
   (case q_int5 => kernel_rfl)
   (case q_int6 => kernel_rfl)
   (case q_bool0 => kernel_rfl)
   (case q_bool1 => kernel_rfl)
   (case q_bool2 => kernel_rfl)
   (case q_bool3 => kernel_rfl)
   (case q_bool4 => kernel_rfl)
   (case q_bool5 => kernel_rfl)
   (case q_bool6 => kernel_rfl)
   (case q_str0 => kernel_rfl)
   (case q_str1 => kernel_rfl)
   (case q_str2 => kernel_rfl)
   (case q_str3 => kernel_rfl)
   (case q_str4 => kernel_rfl)
   (case q_str5 => kernel_rfl)
   (case q_str6 => kernel_rfl)
   (case q_tuple0 => kernel_rfl)
   (case q_tuple1 => kernel_rfl)
   (case q_tuple2 => kernel_rfl)
   (case q_tuple3 => kernel_rfl)
   (case q_tuple4 => kernel_rfl)
   (case q_tuple5 => kernel_rfl)
   (case q_tuple6 => kernel_rfl)
   (case kt11 => kernel_rfl)
#print axioms PySem.Challenge.cw_pagepart_k66_printed_holds
